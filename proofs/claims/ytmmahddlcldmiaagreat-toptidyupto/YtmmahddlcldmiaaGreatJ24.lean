/- Proved here: plain facts and contracts. No condition but what each names. -/
import Derived.Test.YtmmahddlcldmiaaGreatJ23
namespace Go.Proofs.YtmmahddlcldmiaaGreat
open Go.RowKit Tryz
open Go.RowKit Go.Maps
set_option maxRecDepth 100000
set_option maxHeartbeats 2000000
variable{room x y:Int}{k:Int×Int}{g:Int×Int->Bool}{l t:List Int}{ms:List Tc}{vs ws:List Wd}{nm:List ap}{a d e i n:Nat}{s:Tc}{b:Type}{h:Wd}{S:aR}{w w':ag}{v:av}{r:List b}
theorem JJ{β:Type}{l:List b}(c:List.Sublist l r)(f:b->List β):List.Sublist (l.flatMap f) (r.flatMap f):=by
 induction c with
 | slnil=>exact List.Sublist.refl _
 | cons a _ ih=>
  simp only[bK];exact ih.trans (List.sublist_append_right _ _)
 | cons_cons a _ ih=>
  simp only[bK];exact List.Sublist.append (List.Sublist.refl _) ih
theorem M0{l:List b}(c:List.Sublist l r)(f:b->Int)(d:∀a,0<=f a):(l.map f).sum<=(r.map f).sum:=by
 induction c with
 | slnil=>exact jm _
 | cons a _ ih=>
  simp only[aU,bN];have:=d a;omega
 | cons_cons a _ ih=>
  simp only[aU,bN];omega
theorem j9.erase{N:Nat}{s:Tm (N+1)}{ms:List (Tm (N+1))}(l:j9 (N+1) ws nm room (h::vs) (s::ms))(i:Nat):j9 (N+1) ws nm room (h::vs.eraseIdx i) (s::ms.eraseIdx i):=by
 obtain⟨e,o,p,v,q,r,t,u⟩:=l;have m:vs.length=ms.length:=by simpa using e.1
 have n:List.Sublist (h::vs.eraseIdx i) (h::vs):=(List.eraseIdx_sublist vs i).cons_cons h;have j:List.Sublist (s::ms.eraseIdx i) (s::ms):=(List.eraseIdx_sublist ms i).cons_cons s;refine⟨⟨by simp[List.length_eraseIdx,m],λc f d b a=>?_⟩,(JJ n _).nodup o,λd a=>p d (j.subset a),?_,q,r,t,u⟩
 ·cases c with
  | zero=>
   simp only[cW,jr]at b a;exact e.2 0 f d (by simp[b]) (by simp[a])
  | succ c=>
   simp only[dm,List.getElem?_eraseIdx]at b a;by_cases g:c<i
   ·rw[if_pos g]at b a;exact e.2 (c+1) f d (by simpa using b) (by simpa using a)
   ·rw[if_neg g]at b a;exact e.2 (c+2) f d (by simpa using b) (by simpa using a)
 ·have:=M0 j (sz (N+1)) λk=>(fh (N+1) k).1;omega
section
variable {base pb:Nat} {name:ap} {room:Int} {N:Nat} {s:Tm (N+1)} {ms:List (Tm (N+1))} {nk:Nat} {M:aR} {w:ag} {ws:List Wd} {nm:List ap} {sv:Wd} {vs:List Wd} {ma:aw} {mc:Nat} {Mh:aR}
theorem cO.dropped(a:cO base pb name room (N+1) s ms [] nk M w ws nm sv vs ma mc Mh)(i:Nat){w1:ag}{g:Nat}(x:¬Mh g)(l:bB (λb=>b=g) w w1)(v:jP Mh ma (vs.eraseIdx i) mc w1)(u:M g):cO base pb name room (N+1) s (ms.eraseIdx i) [] nk M (w1.setCell ⟨pb,7,none⟩ (.slice ma (vs.eraseIdx i).length mc)) ws nm sv (vs.eraseIdx i) ma mc Mh/\bZ M w (w1.setCell ⟨pb,7,none⟩ (.slice ma (vs.eraseIdx i).length mc)):=by
 obtain⟨m,z⟩:=a.box0;have q:dM base (PL pb name sv (ae ma vs.length mc)) room ws nm Mh w1:=a.heap.kept (jB l) λb r _ c=>x (by rw[<-c];exact r);have k:=bz w1 pb 7 (.slice ma (vs.eraseIdx i).length mc);have j:=a.has;simp only[ci,eK]at j;refine⟨⟨q.turn k λB A mp t=>?_,?_,?_,?_,a.names,a.inM,a.mailM⟩,?_⟩
 ·unfold World.setCell;simp[bO,t]
 ·rcases v with d|⟨h,y,n,o,e,f,p⟩
  ·exact ai d
  ·exact aj ⟨h,y,n,o,e,(k.block h (aJ.1 f).1 λd=>e (by rw[d];exact m)).trans f,p⟩
 ·simp only[ci,eK];exact j.erase i
 ·simp[List.length_eraseIdx,a.len]
 ·refine bZ.trans ((jB l).mono λb c=>?_) k λb _ c=>?_
  ·rw[c];exact u
  ·rw[c];exact a.inM pb m
theorem cO.delete(a:cO base pb name room (N+1) s ms [] nk M w ws nm sv vs ma mc Mh)(i:Nat)(H:i<ms.length)(G:ms.length<=1000):am 78 #[ae ma vs.length mc,ab i,ab ((i:Int)+1)] w λe w'=>e=.returned (.slice ma (vs.eraseIdx i).length mc)/\Hid (bB M w w'/\w'.cell? ⟨pb,7,none⟩=some (ae ma vs.length mc)/\w'.frozen? ⟨pb,7,none⟩=false/\ cO base pb name room (N+1) s (ms.eraseIdx i) [] nk M (w'.setCell ⟨pb,7,none⟩ (.slice ma (vs.eraseIdx i).length mc)) ws nm sv (vs.eraseIdx i) ma mc Mh/\bZ M w (w'.setCell ⟨pb,7,none⟩ (.slice ma (vs.eraseIdx i).length mc))):=by
 have k:=a.len;obtain⟨E,m⟩:=a.box0;have f:(vs.eraseIdx i).length=vs.length-1:=by rw[List.length_eraseIdx,if_pos (by omega)]
 rcases a.mail with⟨_,e,_⟩|⟨g,n,u,rfl,d,x,y,z,A,B⟩
 ·rw[e]at k;simp at k;omega
 ·refine(zg g n mc i vs u w (by omega) x y (by omega) A B).mono ?_;rintro e w' ⟨rfl,o⟩;obtain⟨c,I,v,p,F,q⟩:=o;have j:=a.mailM _ rfl;have l:¬pb=g:=λe=>d (by rw[<-e];exact E);obtain⟨L,J,K,C,_⟩:=a.heap.box;obtain⟨_,_,_,r,t,_⟩:=PL.cells C;have D:=a.dropped i (w1:=w') (g:=g) d c (aj ⟨g,n,v,rfl,d,p,by omega,z,by omega,by rw[f];exact q⟩) j;refine⟨by rw[f],c.mono λb _ e=>by rw[e];exact j,(c.cell 7 m l).trans r,?_,D⟩;have h:=t 7;unfold World.frozen? at h ⊢;rw[c.block pb m l];exact h
end
def rV(n:Nat)(room:Int)(l:List (Bh (n+1)))(name:ap)(self next:Int)(s:Tc)(ms:List Tc):Int:=
 if lU n l≠0 then lU n l else if (decide (1<=self) && decide (self<=99) && decide (1<=next) && decide (next<=92))=false then 1 else if (nJ room l name self next s ms).isSome then 0 else 4
def l6(c:Nat)(sends:List (Int×Tc))(spawns:List (Int×ap×Tc))(links:List Int)(sa:aw)(sl sc:Nat)(pa:aw)(pl pc:Nat)(ka:aw)(kl kc:Nat)(P:aR)(w:ag):Prop:=
 ∃(f:Nat)(d:List (Int×Tm (f+1)))(e:List (Int×ap×Tm (f+1))),(d.length=sl/\e.length=pl/\links.length=kl)/\w.ownsRow c 177 5 (ae sa sl sc) sl (d.flatMap λa=>Nz a.1 a.2)/\w.ownsRow c 174 6 (ae pa pl pc) pl (e.flatMap λa=>OC a.1 a.2.1 a.2.2)/\w.ownsRow c 3 1 (ae ka kl kc) kl (links.map λg=>ab g)/\
  d.map (λa=>(a.1,cn _ a.2))=sends/\e.map (λa=>(a.1,a.2.1,cn _ a.2.2))=spawns/\(∀a∈d,bE _ a.2=0/\In w.heap.size w _ a.2/\cr (λb=>c<=b/\P b) _ a.2)/\(∀a∈e,bE _ a.2.2=0/\In w.heap.size w _ a.2.2/\cr (λb=>c<=b/\P b) _ a.2.2)/\∀b,((Value.slice sa sl sc).ownBlock=some b\/(Value.slice pa pl pc).ownBlock=some b\/(Value.slice ka kl kc).ownBlock=some b)->c<=b/\P b
theorem l6.kept{f:Nat}{sends:List (Int×Tc)}{spawns:List (Int×ap×Tc)}{links:List Int}{sa:aw}{sl sc:Nat}{pa:aw}{pl pc:Nat}{ka:aw}{kl kc:Nat}{P:aR}{w w':ag}(v:l6 f sends spawns links sa sl sc pa pl pc ka kl kc P w){S:aR}(r:bB S w w')(o:∀q,f<=q->P q->q<w.heap.size->¬S q):l6 f sends spawns links sa sl sc pa pl pc ka kl kc P w':=by
 obtain⟨u,H,I,x,y,z,A,B,C,g,h,i⟩:=v;have p:∀{e:Nat}{m:Tm e},In w.heap.size w e m->cr (λq=>f<=q/\P q) e m->In w'.heap.size w' e m:=λF G=>F.kee (r.mono (T:=λb=>S b/\b<w.heap.size) λb D q=>⟨q,D⟩) (G.mono λq c (a:S q/\q<w.heap.size)=>o q c.1 c.2 a.2 a.1);have l:∀{k:TypeId}{a e:Nat}{j:av}{n:List av},w.ownsRow f k a j e n->(∀q,j.ownBlock=some q->f<=q/\P q)->w'.ownsRow f k a j e n:=λ{k a e j n} s t=>bu s r λq c=>by
  obtain⟨J,E⟩:=eC s q c;exact o q (t q c).1 (t q c).2 (aJ.1 E).1
 exact⟨u,H,I,x,l y λq c=>i q (ai c),l z λq c=>i q (aj (ai c)),l A λq c=>i q (aj (aj c)),B,C,λa d=>⟨(g a d).1,p (g a d).2.1 (g a d).2.2,(g a d).2.2⟩,λa d=>⟨(h a d).1,p (h a d).2.1 (h a d).2.2,(h a d).2.2⟩,i⟩
theorem l6.none(c:Nat)(P:aR)(w:ag):l6 c [] [] [] none 0 0 none 0 0 none 0 0 P w:=
 ⟨0,[],[],⟨rfl,rfl,rfl⟩,eP _ _ _ _,eP _ _ _ _,eP _ _ _ _,rfl,rfl,λd b=>(by cases b),λd b=>(by cases b),λe a=>by
  rcases a with a|a|a<;>cases a⟩
def PO(r q:Nat)(name:ap)(room:Int)(s:Tc)(ms:List Tc)(o:Nat)(M:aR)(n:Nat)(l:List (Bh (n+1)))(self next:Int)(w:ag)(e:Ending)(w':ag):Prop:=
 (∃g,e=.returned (.tuple #[M6,ab g])/\Hid (g≠0/\g=rV n room l name self next (cn 13 s) (ms.map (cn 13))/\ak w w'))\/
  ∃(a:Tc)(f:Int)(sa:aw)(sl sc:Nat)(pa:aw)(pl pc:Nat)(ka:aw)(kl kc:Nat),e=.returned (.tuple #[OU a.1.1 a.1.2.1 a.1.2.2 a.2.1.1 a.2.2.length a.2.1.2 f sa sl sc pa pl pc ka kl kc,ab 0])/\Hid (∃b h d,rV n room l name self next (cn 13 s) (ms.map (cn 13))=0/\nJ room l name self next (cn 13 s) (ms.map (cn 13))=some b/\f=b.fate/\cn 13 a=b.message/\bE 13 a=0/\In w'.heap.size w' 13 a/\cr (λc=>w.heap.size<=c/\c<d) 13 a/\bZ M w w'/\w.heap.size<d/\
   (∃i v p t u k m j,cO r q name room 13 i (ms.eraseIdx h) [] (o+402) (λc=>M c\/d<=c) w' v p t u k m j/\cn 13 i=b.state/\(ms.eraseIdx h).map (cn 13)=b.mail)/\l6 (w.heap.size+1) b.sends b.spawns b.links sa sl sc pa pl pc ka kl kc (λ_=>True) w')
theorem Oe(room self next:Int)(s m:Tc)(ms:List Tc)(c:Cl (n+1))(b:List Tc):fx room self next s m ms c b={fx room self next s s ms c b with message:=m}:=by
 unfold fx;cases qq self c.2.2 ⟨b,next,[],[],[],false⟩with
 | none=>rfl
 | some e=>
  cases d:sT e.b self (n+1) c.1.2.2 with
  | none=>simp only[d]
  | some t=>
   simp only[d];by_cases a:(ms.map (sz 13)).sum+sz 13 t<=room
   ·simp only[if_pos a]
   ·simp only[if_neg a]
theorem Gv{self next:Int}{m:Tc}{c:Cl (n+1)}{b:List Tc}(a:¬((fx room self next s m ms c b).fate=0\/(fx room self next s m ms c b).fate=1)):(fx room self next s m ms c b).sends=[]/\(fx room self next s m ms c b).spawns=[]/\(fx room self next s m ms c b).links=[]:=by
 unfold fx at a ⊢;cases hd:qq self c.2.2 ⟨b,next,[],[],[],false⟩with
 | none=>exact⟨rfl,rfl,rfl⟩
 | some d=>
  rw[hd]at a;cases f:sT d.b self (n+1) c.1.2.2 with
  | none=>simp[f]
  | some t=>
   simp only[f]at a ⊢;by_cases e:(ms.map (sz 13)).sum+sz 13 t<=room
   ·simp only[if_pos e]at a;cases hst:d.stops<;>simp[hst]at a
   ·simp[if_neg e]
theorem Gu(room self next:Int)(s m:Tc)(ms:List Tc)(c:Cl (n+1))(b:List Tc):(fx room self next s m ms c b).mail=ms:=by
 unfold fx;cases qq self c.2.2 ⟨b,next,[],[],[],false⟩with
 | none=>rfl
 | some e=>
  cases d:sT e.b self (n+1) c.1.2.2 with
  | none=>simp only[d]
  | some t=>
   simp only[d];by_cases a:(ms.map (sz 13)).sum+sz 13 t<=room
   ·simp only[if_pos a]
   ·simp only[if_neg a]
theorem qR.keptS{D:Nat}{l:List (Tm D)}{B:List Tc}(b:qR D l B a w d e)(c:bB S w w')(h:∀q,a<=q->¬S q):qR D l B a w' d e:=by
 obtain⟨f,g⟩:=b.new;refine⟨b.bnd,b.tells,b.cap,⟨f,aW g c.size⟩,λn t m=>?_,λo=>?_⟩
 ·obtain⟨p,r,j⟩:=b.at' n t m;exact⟨p.kee c g (h d f),r.kee c (j.mono λs k=>h s k.1),j⟩
 ·have i:=b.free o;unfold World.frozen? at i ⊢;rw[c.block d g (h d f)];exact i
theorem xo{B:Nat}{p:aw}{l:List (Bh (n+1))}(j:gq (n+1) B w p l)(name:ap):∃e d g,L0 (n+1) (gj (n+1) name l)=ae e d g/\(gt name l).length=d/\qi B w 13 (fk (n+1)) (ig (n+1) B w) e (gt name l)/\(gt name l=[]\/∃b∈l,gt name l=b.2.2):=by
 have k:∀(l:List (Bh (n+1))) b,gj (n+1) name l=some b->b∈l:=by
  intro l
  induction l with
  | nil=>intro b a;cases a
  | cons q l ih=>
   intro b a;simp only[gj]at a;split at a
   ·obtain rfl:=aA a;simp
   ·exact bR _ (ih b a)
 unfold gt;cases hb:gj (n+1) name l with
 | none=>exact⟨none,0,0,rfl,rfl,ai rfl,ai rfl⟩
 | some b=>
  have c:=k l b hb;refine⟨_,_,_,rfl,rfl,?_,aj ⟨b,c,rfl⟩⟩;rcases j with f|⟨s,o,f,r,h⟩
  ·rw[f]at c;cases c
  ·obtain⟨m,i⟩:=dd c;exact((h m b i).2).2.2
theorem cO.step{name:ap}{M:aR}{ma:aw}{aG:Nat}{Mh:aR}(V:cO a d name room 13 s ms [] e M w ws nm h vs ma aG Mh)(l:List (Bh (n+1)))(af:aw)(Q B:Nat)(a9:gq (n+1) B w af l)(T:B<=w.heap.size)(b8:l.length<=Q)(bo:Q<=maxLen)(bO:kF (n+1) l=true->(aC (n+6) (cd n l)).length<=2097152)(U:∀b,M b->b<w.heap.size)(bP:∀W,bB M w W->gq (n+1) B W af l)(cC:e<=47000)(cx:ms.length<=999)(cy:a<=w.heap.size)(self next:Int):am 45 #[aH d,ae af l.length Q,ab self,ab next] w (PO a d name room s ms e M n l self next w):=by
 obtain⟨cc,ce⟩:=V.box0 (N:=12);obtain⟨cM,cF,cI,bQ,_⟩:=V.heap.box;obtain⟨bD,_,_,cv,cw,_⟩:=PL.cells bQ;obtain⟨a1,bG,bh,bY,bW,b0,bX⟩:=xo a9 name;have cB:Q<=9223372036854775807:=by unfold maxLen at bo;omega
 have bl:lU n l=0->(∀c∈gt name l,qe c)/\(gt name l).length<=6:=λx=>by
  obtain⟨_,bp⟩:=Fx x;rcases bX with i|⟨b,y,i⟩
  ·rw[i];exact⟨λc bS=>(by cases bS),aL _⟩
  ·rw[i];exact⟨(bp b y).2,(bp b y).1⟩
 have a7:∀(k:Nat)(t:Tc),(ms.map (cn 13))[k]?=some t->k<ms.length:=λk t ax=>by
  have:=(aX.1 ax).1;simpa using this
 refine(Ib d name af l.length Q self next (lU n l) a1 bG bh w (sw (gt name l) (cn 13 s) (ms.map (cn 13)) 0=none)
  (λk p c A J z=>∃q F I,ak w z/\(1<=self/\self<=99/\1<=next/\next<=92)/\lU n l=0/\sw (gt name l) (cn 13 s) (ms.map (cn 13)) 0=some (k,c,q)/\c∈gt name l/\(ms.map (cn 13))[k]?=some (cn 13 p)/\bE 13 p=0/\In z.heap.size z 13 p/\cr (λg=>w.heap.size<g/\g≠A) 13 p/\qR (F+1) I q (w.heap.size+1) z A J)
  (λk p c A J z=>∃q F I aV aN aQ aT aE aI au,cO a d name room 13 s (ms.eraseIdx k) [] e M z aV aN aQ aT aE aI au/\bZ M w z/\(1<=self/\self<=99/\1<=next/\next<=92)/\lU n l=0/\sw (gt name l) (cn 13 s) (ms.map (cn 13)) 0=some (k,c,q)/\c∈gt name l/\(ms.map (cn 13))[k]?=some (cn 13 p)/\bE 13 p=0/\In z.heap.size z 13 p/\cr (λg=>w.heap.size<g/\g≠A) 13 p/\qR (F+1) I q (w.heap.size+1) z A J)
  (λk p c f sa sl sc pa pl pc ka kl kc S=>∃q ah,sw (gt name l) (cn 13 s) (ms.map (cn 13)) 0=some (k,c,q)/\(ms.map (cn 13))[k]?=some (cn 13 p)/\bE 13 p=0/\In S.heap.size S 13 p/\cr (λg=>w.heap.size<g/\g<ah) 13 p/\w.heap.size<ah/\bZ M w S/\f=(fx room self next (cn 13 s) (cn 13 s) ((ms.eraseIdx k).map (cn 13)) c q).fate/\
   (∃R aV aN aQ aT aE aI au,cO a d name room 13 R (ms.eraseIdx k) [] (e+402) (λg=>M g\/ah<=g) S aV aN aQ aT aE aI au/\cn 13 R=(fx room self next (cn 13 s) (cn 13 s) ((ms.eraseIdx k).map (cn 13)) c q).state)/\
   l6 (w.heap.size+1) (fx room self next (cn 13 s) (cn 13 s) ((ms.eraseIdx k).map (cn 13)) c q).sends (fx room self next (cn 13 s) (cn 13 s) ((ms.eraseIdx k).map (cn 13)) c q).spawns (fx room self next (cn 13 s) (cn 13 s) ((ms.eraseIdx k).map (cn 13)) c q).links sa sl sc pa pl pc ka kl kc (λ_=>True) S)
  _ M ce U (V.inM d cc) rfl ?_ bD ?_ ?_ ?_ ?_).mono ?_
 ·intro W r;refine(K8 n l af Q b8 bo B W (a9.below (r.mono T)) (aD T r.size) bO).mono ?_;rintro i P ⟨p,rfl,C⟩;exact⟨_,_,_,_,_,_,rfl,C.1⟩
 ·intro W _ r;refine(uK (n+1) name l af Q l.length B W rfl (by omega) (aD T r.size) (a9.below (r.mono T))).mono ?_;rintro i P ⟨rfl,y⟩;exact⟨by rw[bY],y⟩
 ·intro W x D r;simp only[aK,co]at D;obtain⟨ba,b9⟩:=bl x;have bk:=C8 (V.later (N:=12) r) (gt name l) a1 bh B ((cN (eE (n+1)) 13 (fk (n+1)) a1).below (r.mono T) b0) (aD T r.size) ba (by omega) (by omega) (by omega);rw[bW]at bk;refine bk.mono ?_;rintro i P (⟨bM,rfl,C⟩|⟨k,p,c,A,J,rfl,C⟩)
  ·exact ai ⟨rfl,C,bM⟩
  ·obtain⟨q,F,I,K,L,E,O,bs,Z,aa,H⟩:=C.out;have cj:=r.size;have aq:=H.new;have a6:=a7 k _ E;exact aj ⟨k,p,c,A,J,rfl,bs,by omega,aq.2,by omega,q,F,I,r.trans (bs.mono cj),⟨D.1.1.1,D.1.1.2,D.1.2,D.2⟩,x,K,L,E,O,Z,aa.mono λg m=>⟨by omega,m.2⟩,H.mono (by omega)⟩
 ·rintro k p c A J z W ⟨q,F,I,a2,X,x,K,L,E,O,Z,aa,H⟩ r;have a3:=a2.trans (r.mono a2.size);have a6:=a7 k _ E;obtain⟨cP,cG,cJ,bR,_⟩:=(V.later (N:=12) a3).heap.box;obtain⟨_,_,_,bF,bH,_⟩:=PL.cells bR;refine⟨ma,vs.length,aG,⟨bF,bH 7⟩,λbC az=>?_⟩;have bi:=a3.trans (az.mono a3.size);refine((V.later (N:=12) bi).delete (N:=12) k a6 (by omega)).mono ?_;rintro i P ⟨rfl,C⟩;obtain⟨cl,cm,cp,cq,bd⟩:=C.out;have cg:=a2.size;refine⟨ma,_,aG,rfl,cl,cm,cp,q,F,I,ws,nm,h,_,ma,aG,Mh,cq,(bm bi M).trans bd λ_ _ i=>i,X,x,K,L,E,O,?_,aa,?_⟩
  ·exact(((Z.below r).mono r.size |>.below az).mono az.size).kee (iq bd) (aa.mono λg m j=>by have:=U g j;omega)
  ·exact((H.keptS (aO r (λ_=>False)) (λ_ _ i=>i)).keptS (aO az (λ_=>False)) (λ_ _ i=>i)).keptS (iq bd) λg m j=>by have:=U g j;omega
 ·rintro k p c A J z W al ⟨q,F,I,aV,aN,aQ,aT,aE,aI,au,cb,a8,X,x,K,L,E,O,Z,aa,H⟩ r cz bj;obtain⟨ba,b9⟩:=bl x;have ad:=H.keptS (aO r (λ_=>False)) (λ_ _ i=>i);have aq:=H.new;have cg:=a8.size;have ci:=r.size;have a6:=a7 k _ E;have cA:al<W.heap.size:=(aJ.1 bj).1;have b2:eD (w.heap.size+1) al self n F 0 next ⟨q,next,[],[],[],false⟩ W I A J [] [] (ae none 0 0) (ae none 0 0) (ae none 0 0):=by
   refine⟨bj,⟨by omega,by omega,aq.1,ad.new.2,by omega⟩,ad.bnd,ad.tells,λY j v=>⟨(ad.at' Y j v).1,(ad.at' Y j v).2.1,(In.offB (H.at' Y j v).2.2 (H.at' Y j v).2.1).mono λg m=>⟨m.1.1,λu=>?_⟩⟩,ad.free,eP _ _ _ _,eP _ _ _ _,eP _ _ _ _,rfl,rfl,λj v=>(by cases v),λj v=>(by cases v),⟨⟨λi=>(by cases i),λi=>(by cases i),λi=>(by cases i)⟩,⟨λi=>(by cases i),λi=>(by cases i),λi=>(by cases i)⟩,λg=>⟨λi=>(by cases i),λi=>(by cases i)⟩⟩,⟨aL _,aL _,aL _,by simp,X.2.2.1,X.2.2.2⟩⟩;rcases u with u|u|u|u|u
   ·have:=m.2;omega
   ·exact m.1.2 u
   ·cases u
   ·cases u
   ·cases u
  have b7:bB M w W:=(iq a8).trans (aO r (λ_=>False)) λ_ _ i=>i.elim;have bV:ig (n+1) B W c:=by
   obtain⟨_,_,_,_,_,b1,_⟩:=xo (bP W b7) name;rcases b1 with i|⟨g,o,i,m,bU⟩
   ·rw[i]at L;cases L
   ·obtain⟨Y,b6⟩:=dd L;exact(bU Y c b6).2
  have bT:ig (n+1) (w.heap.size+1) W c:=(eE (n+1)).mono (by omega) bV;have b3:(ms.eraseIdx k).length<=999:=by
   have:=List.length_eraseIdx_le ms k;omega
  have a5:=Dk (b:=q) (cb.later (N:=12) r) b2 rfl c bT (ba c L) ⟨X.1,X.2.1⟩ (λg j=>by have:=U g j;omega) (by omega) (by omega) b3;have b4:am 79 #[aH d,PS c,aH al] W _:=a5;refine b4.mono ?_;rintro i P ⟨f,rfl,aZ,a0,⟨R,aW,aP,aS,aU,aF,aM,av,bf,bg⟩,bA⟩;have a4:∀g,lJ al A (ae none 0 0) (ae none 0 0) (ae none 0 0) g->g=al\/g=A:=λg u=>by
   rcases u with u|u|u|u|u
   ·exact ai u
   ·exact aj u
   ·cases u
   ·cases u
   ·cases u
  have an:bZ M w P:=(a8.trans (bm r M) λ_ _ i=>i).trans (jB a0) λg m j=>by
   rcases j with j|j
   ·exact j
   ·rcases a4 g j with j|j<;>omega
  have ar:=In.offB aa Z
  have aY:In P.heap.size P 13 p:=((Z.below r).mono ci).kee a0 (ar.mono λg m j=>by
   rcases j with j|j
   ·have:=U g j;omega
   ·rcases a4 g j with j|j
    ·have:=m.2;omega
    ·exact m.1.2 j)
  have bv:cr (λg=>w.heap.size<g/\g<W.heap.size) 13 p:=ar.mono λg m=>⟨m.1.1,by have:=m.2;omega⟩;refine⟨f,rfl,a0.mono λg _ j=>?_,λay=>?_,λay=>?_⟩
  ·rcases j with j|j
   ·exact ai j
   ·exact aj (a4 g j)
  ·obtain⟨bI,cE,cu,ct,bt,bu,cL,cK,cH,G,bw,bx,be,_⟩:=bA ay;have br:=G.sRow;have bq:=G.pRow;have bn:=G.lRow;have b5:=G.high;have bc:=G.sIn;have bb:=G.pIn;obtain⟨sa,sc,rfl⟩:=mP br;obtain⟨pa,pc,rfl⟩:=mP bq;obtain⟨ka,kc,rfl⟩:=mP bn;refine⟨_,_,_,_,sa,bt.length,sc,pa,bu.length,pc,ka,bI.links.length,kc,G.box,q,W.heap.size,K,E,O,aY,bv,by omega,an,aZ,⟨R,aW,aP,aS,aU,aF,aM,av,bf,bg⟩,?_⟩;refine⟨F+1+n,bt,bu,⟨rfl,rfl,by rw[<-be]⟩,br,bq,by rw[<-be];exact bn,G.sIs.trans bw,G.pIs.trans bx,λj v=>⟨(bc j v).1,(bc j v).2.1,(bc j v).2.2.mono λg m=>⟨m.1,trivial⟩⟩,λj v=>⟨(bb j v).1,(bb j v).2.1,(bb j v).2.2.mono λg m=>⟨m.1,trivial⟩⟩,λg m=>⟨b5 g (aj (aj m)),trivial⟩⟩
  ·rw[aZ]at ay;obtain⟨bJ,bK,bL⟩:=Gv ay;refine⟨q,W.heap.size,K,E,O,aY,bv,by omega,an,aZ,⟨R,aW,aP,aS,aU,aF,aM,av,bf,bg⟩,?_⟩;rw[bJ,bK,bL];exact l6.none _ _ _
 ·rintro i P (⟨cs,rfl,C⟩|⟨k,p,c,f,sa,sl,sc,pa,pl,pc,ka,kl,kc,rfl,C⟩)
  ·obtain⟨y,ck⟩:=C.out;refine ai ⟨cs,rfl,?_⟩;rcases ck with⟨rfl,ax⟩|⟨rfl,x,D⟩|⟨rfl,x,D,aq⟩
   ·exact⟨ax,by unfold rV;rw[if_pos ax],y⟩
   ·exact⟨by decide,by unfold rV;rw[if_neg (λg=>g x),if_pos D],y⟩
   ·refine⟨by decide,?_,y⟩;have aB:nJ room l name self next (cn 13 s) (ms.map (cn 13))=none:=by
     unfold nJ;rw[aq];rfl
    unfold rV;rw[if_neg (λg=>g x),if_neg (by rw[D];decide),aB];rfl
  ·obtain⟨x,D,S,bC,⟨q,ah,K,E,O,aY,ar,bN,an,a5,⟨R,aW,aP,aS,aU,aF,aM,av,P1,bz⟩,cf⟩,ao,aA⟩:=C;have cD:=an.size;have ch:=ao.size;have ca:(ms.map (cn 13)).eraseIdx k=(ms.eraseIdx k).map (cn 13):=by simp[sW,List.map_take,List.map_drop]
   have aB:nJ room l name self next (cn 13 s) (ms.map (cn 13))=some {fx room self next (cn 13 s) (cn 13 s) ((ms.eraseIdx k).map (cn 13)) c q with message:=cn 13 p}:=by
    unfold nJ;rw[K];simp only[dG];rw[E,ca,ni,Oe]
   refine aj ⟨p,f,sa,sl,sc,pa,pl,pc,ka,kl,kc,rfl,_,k,ah,?_,aB,a5,rfl,O,((aY.below ao).mono ch).kee aA (ar.mono λg m i=>by omega),ar.mono λg m=>⟨by omega,m.2⟩,(an.trans (bm ao M) λ_ _ i=>i).trans (jB aA) λb y i=>by omega,bN,⟨R,aW,aP,aS,aU,aF,aM,av,(P1.later (N:=12) ao).kept (N:=12) (jB aA) λb y _ i=>?_,bz,(Gu ..).symm⟩,(cf.kept (aO ao (λ_=>False)) λ_ _ _ _ i=>i).kept aA λg m _ _ i=>by omega⟩
   ·unfold rV;rw[if_neg (λg=>g x),if_neg (by rw[D];decide),aB];rfl
   ·rcases y with y|y
    ·have:=U b y;omega
    ·omega
theorem F9(n:Nat)(x:Tm n):bE n x=0\/bE n x=2\/bE n x=5:=by
 rw[<-gz];unfold wX;split
 ·split
  ·exact aj (ai rfl)
  ·exact ai rfl
 ·exact aj (aj rfl)
section
variable {base pb:Nat} {name:ap} {room:Int} {N n:Nat} {s:Tm (N+1)} {ms:List (Tm (N+1))} {nk:Nat} {M:aR} {w:ag} {ws:List Wd} {nm:List ap} {sv:Wd} {vs:List Wd} {ma:aw} {mc:Nat} {Mh:aR}
theorem cO.putBad(k:cO base pb name room (N+1) s ms [] nk M w ws nm sv vs ma mc Mh)(x:Tm (n+1))(B:In w.heap.size w (n+1) x)(z:cr (λb=>¬M b) (n+1) x)(u:(aC (n+1) x).length<=2097152)(G:nk<=49000)(F:base<=w.heap.size)(o:bE (n+1) x≠0):am 123 #[aH pb,dw (n+1) x] w λe w'=>e=.returned (.tuple #[.agg #[ab 0,ab 0],ab (bE (n+1) x)])/\ak w w':=by
 obtain⟨_,_,_,I,J,C,D,_⟩:=k.front;have H:=k.names;have l:jS (n+1) x room ws=bE (n+1) x:=by
  unfold jS;rw[if_pos o]
 have t:jS (n+1) x room ws≠6:=by
  rw[l];rcases F9 (n+1) x with e|e|e<;>rw[e]<;>decide
 have p:∀{h:Wd}{c:Int}{f i:ag},yI (n+1) x base (PL pb name sv (ae ma vs.length mc)) room ws nm Mh h c f i->c≠0:=λg=>by
  rw[g.1,l];exact o
 refine(BW pb x.1.1 x.1.2.1 x.1.2.2 x.2.1.1 x.2.2.length x.2.1.2 w (λh c f i=>yI (n+1) x base (PL pb name sv (ae ma vs.length mc)) room ws nm Mh h c f i) (λ_ _=>False) (λ_ _ _ _=>False) ?_ ?_ ?_).mono ?_
 ·intro f d;have m:=d.size;have q:=k.later d;refine(uY (n+1) x base (PL pb name sv (ae ma vs.length mc)) room ws nm Mh f q.heap ((B.below d).mono m) (z.mono λb d g=>d (k.inM b g)) u (by omega) C D (by omega) (by omega)).mono ?_;intro e i g;obtain⟨h,c,rfl,a⟩:=zI g;refine⟨h,c,rfl,?_,a⟩;have j:=(a.2.1 (p a)).2;exact⟨j.size,λb _ _ r=>j.block b r⟩
 ·intro K f i L _ a _ _;exact absurd a.1.symm t
 ·intro _ _ _ a;exact a.elim
 ·rintro e w' ⟨h,c,rfl,⟨_,f,i,d,a,y⟩|⟨_,_,_,_,_,_,_,_,_,_,_,a,_⟩⟩
  ·obtain⟨A,j⟩:=a.2.1 (p a);have m:=d.size;have v:c=bE (n+1) x:=a.1.trans l;refine⟨by rw[v,A],(d.trans (j.mono m)).trans ((iq y).below (by have:=j.size;omega) λb E g=>by omega)⟩
  ·exact a.elim
theorem cO.deliverBad(f:cO base pb name room (N+1) s ms [] nk M w ws nm sv vs ma mc Mh)(x:Tm (n+1))(v:In w.heap.size w (n+1) x)(t:cr (λb=>¬M b) (n+1) x)(p:(aC (n+1) x).length<=2097152)(r:nk<=49000)(q:base<=w.heap.size)(k:bE (n+1) x≠0):am 85 #[aH pb,dw (n+1) x] w λe w'=>e=.returned (ab (if 20<=ms.length then 2 else bE (n+1) x))/\ak w w':=by
 have z:=f.len;obtain⟨A,u⟩:=f.box0;refine(rv pb x.1.1 x.1.2.1 x.1.2.2 x.2.1.1 x.2.2.length x.2.1.2 vs.length mc ma w (λ_ l h d=>l=bE (n+1) x/\ak h d) (λ_ _ _ _ _ _=>False) u ?_ ?_ ?_).mono ?_
 ·intro d a;obtain⟨D,B,C,i,_⟩:=(f.later a).heap.box;exact(PL.cells i).2.2.2.1
 ·intro h a;have g:=a.size;refine((f.later a).putBad x ((v.below a).mono g) t p r (aD q g) k).mono ?_;rintro e d ⟨rfl,c⟩;exact⟨(0,0),_,rfl,⟨c.size,λb _ _ j=>c.block b j⟩,rfl,c⟩
 ·rintro y h d ⟨e,_⟩;exact absurd e.symm k
 ·rintro e w' ⟨i,m⟩;by_cases o:20<=vs.length
  ·obtain⟨rfl,a⟩:=i o;exact⟨by rw[if_pos (by omega)],a⟩
  ·obtain⟨y,l,h,d,rfl,a,⟨rfl,c⟩,j,_⟩:=m (by omega);have g:=a.size;exact⟨by rw[if_neg (by omega)],(a.trans (c.mono g)).trans ((j k).mono (by have:=c.size;omega))⟩
end
def nz(n:Nat)(x:Tm n)(room:Int)(s:Tc)(ms:List Tc):Int:=if 20<=ms.length then 2 else if bE n x≠0 then bE n x else if aS n x=false then 5 else if ((s::ms).map (sz 13)).sum+sz n x<=room then 0 else 6
theorem EW{l:List Tc}(a:∀y∈l,bE 13 y=0):((l.map (cn 13)).map (sz 13)).sum=(l.map (sz 13)).sum:=by
 rw[gE];congr 1;exact jq λy b=>EX (a y b)
section
variable {base pb:Nat} {name:ap} {room:Int} {n:Nat} {s:Tc} {ms:List Tc} {nk:Nat} {M:aR} {w:ag} {ws:List Wd} {nm:List ap} {sv:Wd} {vs:List Wd} {ma:aw} {mc:Nat} {Mh:aR}
theorem cO.deliverC(f:cO base pb name room 13 s ms [] nk M w ws nm sv vs ma mc Mh)(x:Tm (n+1))(C:In w.heap.size w (n+1) x)(B:cr (λb=>¬M b) (n+1) x)(J:(aC (n+1) x).length<=2097152)(I:∀b,M b->b<w.heap.size)(A:nk<=49000)(G:ms.length<=999)(v:base<=w.heap.size):am 85 #[aH pb,dw (n+1) x] w λe w'=>e=.returned (ab (nz (n+1) x room (cn 13 s) (ms.map (cn 13))))/\Hid (∃D q m o p k l h,cO base pb name room 13 s D [] (nk+201) (λb=>M b\/w.heap.size<=b) w' q m o p k l h/\bZ M w w'/\D.map (cn 13)=if nz (n+1) x room (cn 13 s) (ms.map (cn 13))=0 then ms.map (cn 13)++ [cn (n+1) x]else ms.map (cn 13)):=by
 have L:∀r∈s::ms,bE 13 r=0:=λr Q=>((f.front (N:=12)).2.2.1 r Q).1;have O:((cn 13 s::ms.map (cn 13)).map (sz 13)).sum=((s::ms).map (sz 13)).sum:=EW L;by_cases a:bE (n+1) x=0
 ·have j:aI ⟨n+1,x⟩:=aT.2 (bG.1 a).1;have i:fI (n+1) x<13:=by have:=(bG.1 a).2.1;omega
  have g:=jC 13 (n+1) x j i;have y:bE 13 (aY 13 (n+1) x)=0:=(bV g).trans a;have z:=f.deliver (N:=12) (aY 13 (n+1) x) (sH 13 (n+1) x _ _ j i C) (ue 13 (n+1) x _ j i B) (fo y) I A G v;have d:zh 13 (aY 13 (n+1) x) room s ms=nz (n+1) x room (cn 13 s) (ms.map (cn 13)):=by
   unfold zh nz sJ;rw[O,eu,y,a,cM _ _ _ _ g,lT _ _ _ _ g]
  have P:dw (12+1) (aY (12+1) (n+1) x)=dw (n+1) x:=zv 12 n x;rw[P]at z;refine z.mono ?_;rintro e w' ⟨rfl,E⟩;obtain⟨q,m,o,p,k,l,h,F,K⟩:=E;refine⟨congrArg (λS=>Ending.returned (ab S)) d,_,q,m,o,p,k,l,h,F,K,?_⟩;have H:zh (12+1) (aY (12+1) (n+1) x) room s ms=nz (n+1) x room (cn 13 s) (ms.map (cn 13)):=d;rw[H];by_cases c:nz (n+1) x room (cn 13 s) (ms.map (cn 13))=0
  ·rw[if_pos c,if_pos c,iD];congr 1;exact congrArg (λt=> [t]) (io g)
  ·rw[if_neg c,if_neg c]
 ·have d:nz (n+1) x room (cn 13 s) (ms.map (cn 13))=if 20<=ms.length then 2 else bE (n+1) x:=by
    unfold nz;rw[eu,if_pos a]
  have c:nz (n+1) x room (cn 13 s) (ms.map (cn 13))≠0:=by
   rw[d];split
   ·decide
   ·exact a
  refine(f.deliverBad (N:=12) x C B J A v a).mono ?_;rintro e w' ⟨rfl,u⟩;refine⟨by rw[d],ms,ws,nm,sv,vs,ma,mc,Mh,(f.later (N:=12) u).mono (N:=12) (λb R=>ai R) (by omega),bm u M,?_⟩;rw[if_neg c]
end
theorem Kh{x:Tm (n+1)}(room:Int)(name:ap)(b:bE (n+1) x=0):gg 13 (aY 13 (n+1) x) room name=gg (n+1) x room name:=by
 have d:aI ⟨n+1,x⟩:=aT.2 (bG.1 b).1;have c:fI (n+1) x<13:=by have:=(bG.1 b).2.1;omega
 have a:=jC 13 (n+1) x d c;unfold gg jS;rw[bV a,cM _ _ _ _ a,lT _ _ _ _ a]
theorem Pj(n:Nat)(x:Tm (n+1))(room:Int)(name:ap)(w:ag)(m:name.size<=9223372036854775807)(o:In w.heap.size w (n+1) x)(q:(aC (n+1) x).length<=2097152):am 42 #[af name,dw (n+1) x,ab room] w λe w'=>(gg (n+1) x room name≠0->e=.returned (.tuple #[.pointer none,ab (gg (n+1) x room name)])/\ak w w')/\ (gg (n+1) x room name=0->∃d,e=.returned (.tuple #[aH d,ab 0])/\Hid (w.heap.size<=d/\ak w w'/\bE (n+1) x=0/\∃s ws nm h Mh,cn 13 s=cn (n+1) x/\cO w.heap.size d name room 13 s [] [] 201 (λb=>w.heap.size<=b/\b<w'.heap.size) w' ws nm h [] none 0 Mh)):=by
 by_cases c:bE (n+1) x=0
 ·have k:aI ⟨n+1,x⟩:=aT.2 (bG.1 c).1;have j:fI (n+1) x<13:=by have:=(bG.1 c).2.1;omega
  have l:=jC 13 (n+1) x k j;have r:bE 13 (aY 13 (n+1) x)=0:=(bV l).trans c;have i:=BT 12 (aY 13 (n+1) x) room name w m (sH 13 (n+1) x _ _ k j o) (fo r);have u:dw (12+1) (aY (12+1) (n+1) x)=dw (n+1) x:=zv 12 n x;rw[u]at i;refine i.mono ?_;rintro e w' ⟨f,g⟩;have t:gg (12+1) (aY (12+1) (n+1) x) room name=gg (n+1) x room name:=Kh room name c;rw[t]at f g;refine⟨f,λa=>?_⟩;obtain⟨d,rfl,p⟩:=g a;obtain⟨v,y,ws,nm,h,Mh,z⟩:=p;exact⟨d,rfl,v,y,c,_,ws,nm,h,Mh,io l,z⟩
 ·refine(BT n x room name w m o q).mono ?_;rintro e w' ⟨f,g⟩;refine⟨f,λa=>?_⟩;unfold gg at a;split at a
  ·cases a
  ·split at a
   ·cases a
   ·unfold jS at a;rw[if_pos c]at a;exact absurd a c
def P1(e l:Nat)(name:ap)(room:Int)(cs:Tc)(g:List Tc)(k:Nat)(M:aR)(w:ag):Prop:=
 ∃a d c o j m n h i f,cO a l name room 13 d c [] k M w o j m n h i f/\(cn 13 d=cs/\c.map (cn 13)=g)/\a<=w.heap.size/\∀b,M b->e<=b/\b<w.heap.size
section
variable {B0 pb:Nat} {name:ap} {room:Int} {cs:Tc} {cms:List Tc} {k:Nat} {M:aR} {w:ag}
theorem P1.later(g:P1 B0 pb name room cs cms k M w){w1:ag}(c:ak w w1):P1 B0 pb name room cs cms k M w1:=by
 obtain⟨f,o,m,r,n,p,q,j,l,e,h,i,s,a⟩:=g;have t:=c.size;exact⟨f,o,m,r,n,p,q,j,l,e,h.later (N:=12) c,i,by omega,λb d=>⟨(a b d).1,by have:=(a b d).2;omega⟩⟩
theorem P1.kept(g:P1 B0 pb name room cs cms k M w){S:aR}{w1:ag}(d:bZ S w w1)(j:∀b,M b->¬S b):P1 B0 pb name room cs cms k M w1:=by
 obtain⟨f,p,n,s,o,q,r,l,m,e,h,i,t,c⟩:=g;have u:=d.size;exact⟨f,p,n,s,o,q,r,l,m,e,h.kept (N:=12) d λb a _=>j b a,i,by omega,λb a=>⟨(c b a).1,by have:=(c b a).2;omega⟩⟩
def mM(M:aR)(w w':ag)(b:Nat):Prop:=(M b\/w.heap.size<=b)/\b<w'.heap.size
theorem P1.ok(h:P1 B0 pb name room cs cms k M w):bE 13 cs=0/\aS 13 cs=true/\(∀m∈cms,bE 13 m=0/\aS 13 m=true)/\((cs::cms).map (sz 13)).sum<=room:=by
 obtain⟨q,b,f,z,v,x,y,t,u,p,i,⟨rfl,rfl⟩,r,s⟩:=h;obtain⟨_,_,e,n,o,_⟩:=i.front (N:=12);have j:∀a∈b::f,bE 13 a=0:=λa d=>(e a d).1;have c:=e b (by simp);refine⟨og c.1,(mu c.1).trans c.2,λm l=>?_,?_⟩
 ·obtain⟨a,d,rfl⟩:=cm.1 l;have:=e a (bR _ d);exact⟨og this.1,(mu this.1).trans this.2⟩
 ·have g:((cn 13 b::f.map (cn 13)).map (sz 13)).sum=((b::f).map (sz 13)).sum:=EW j;rw[g];exact Int.le_trans n o
theorem P1.deliver(j:P1 B0 pb name room cs cms k M w){n:Nat}(x:Tm (n+1))(t:In w.heap.size w (n+1) x)(s:cr (λb=>¬M b) (n+1) x)(q:(aC (n+1) x).length<=2097152)(r:k<=49000)(m:cms.length<=999)(G:B0<=w.heap.size):am 85 #[aH pb,dw (n+1) x] w λe w'=>e=.returned (ab (nz (n+1) x room cs cms))/\Hid (bZ M w w'/\P1 B0 pb name room cs (if nz (n+1) x room cs cms=0 then cms++ [cn (n+1) x]else cms) (k+201) (mM M w w') w'):=by
 obtain⟨i,A,J,P,K,L,O,H,I,E,l,⟨rfl,rfl⟩,c,d⟩:=j;refine(l.deliverC x t s q (λb a=>(d b a).2) r (by simpa using m) c).mono ?_;rintro e w' ⟨rfl,h⟩;obtain⟨y,D,z,B,C,u,v,F,o,f,p⟩:=h;refine⟨rfl,f,i,A,y,D,z,B,C,u,v,_,o.inside (N:=12),⟨rfl,p⟩,aD c f.size,λb a=>⟨?_,a.2⟩⟩;rcases a.1 with g|g
 ·exact(d b g).1
 ·omega
theorem P1.state(d:P1 B0 pb name room cs cms k M w)(g:k<=50000):am 34 #[aH pb] w λe w'=>∃y:Tc,e=.returned (dw 13 y)/\Hid (ak w w'/\In w'.heap.size w' 13 y/\cr (λq=>w.heap.size<=q) 13 y/\bE 13 y=0/\cn 13 y=cs):=by
 obtain⟨l,h,r,v,s,t,u,o,p,j,a,⟨rfl,rfl⟩,m,n⟩:=d;have f:=(a.front (N:=12)).2.2.1 h (by simp);refine(a.state (N:=12) g).mono ?_;rintro e w' ⟨y,rfl,c⟩;obtain⟨y1,y2,i,b⟩:=c;exact⟨y,rfl,y1,y2,i,(bV b).trans f.1,io b⟩
end
section
variable {B0 pb:Nat} {name:ap} {room:Int} {cs:Tc} {cms:List Tc} {k:Nat} {M:aR} {w:ag}
theorem P1.mono(f:P1 B0 pb name room cs cms k M w){M':aR}{c a:Nat}(j:∀b,M b->M' b)(m:k<=c)(l:∀b,M' b->a<=b/\b<w.heap.size):P1 a pb name room cs cms c M' w:=by
 obtain⟨e,r,p,u,q,s,t,n,o,d,g,h,i,_⟩:=f;exact⟨e,r,p,u,q,s,t,n,o,d,g.mono (N:=12) j m,h,i,l⟩
def PP(B0 pb:Nat)(name:ap)(room:Int)(cs:Tc)(cms:List Tc)(k:Nat)(M:aR)(n:Nat)(l:List (Bh (n+1)))(self next:Int)(w:ag)(e:Ending)(w':ag):Prop:=
 (∃g,e=.returned (.tuple #[M6,ab g])/\Hid (g≠0/\g=rV n room l name self next cs cms/\ak w w'))\/
  ∃(a:Tc)(f:Int)(sa:aw)(sl sc:Nat)(pa:aw)(pl pc:Nat)(ka:aw)(kl kc:Nat),e=.returned (.tuple #[OU a.1.1 a.1.2.1 a.1.2.2 a.2.1.1 a.2.2.length a.2.1.2 f sa sl sc pa pl pc ka kl kc,ab 0])/\Hid (∃c d,rV n room l name self next cs cms=0/\nJ room l name self next cs cms=some c/\f=c.fate/\cn 13 a=c.message/\bE 13 a=0/\In w'.heap.size w' 13 a/\cr (λh=>w.heap.size<=h/\h<d) 13 a/\bZ M w w'/\w.heap.size<d/\
   P1 B0 pb name room c.state c.mail (k+402) (λb=>(M b\/d<=b)/\b<w'.heap.size) w'/\c.mail.length<=cms.length/\l6 (w.heap.size+1) c.sends c.spawns c.links sa sl sc pa pl pc ka kl kc (λ_=>True) w')
theorem P1.step(D:P1 B0 pb name room cs cms k M w){n:Nat}(l:List (Bh (n+1)))(a:aw)(c B:Nat)(K:gq (n+1) B w a l)(G:B<=w.heap.size)(L:l.length<=c)(O:c<=maxLen)(H:kF (n+1) l=true->(aC (n+6) (cd n l)).length<=2097152)(I:∀W,bB M w W->gq (n+1) B W a l)(ak:B0<=w.heap.size)(J:k<=47000)(F:cms.length<=999)(self next:Int):am 45 #[aH pb,ae a l.length c,ab self,ab next] w (PP B0 pb name room cs cms k M n l self next w):=by
 obtain⟨C,ap,S,av,ao,aq,ar,al,an,af,E,⟨rfl,rfl⟩,i,j⟩:=D;refine(E.step l a c B K G L O H (λb d=>(j b d).2) I J (by simpa using F) i self next).mono ?_;rintro ah au (⟨Y,rfl,e⟩|⟨ad,f,sa,sl,sc,pa,pl,pc,ka,kl,kc,rfl,e⟩)
 ·exact ai ⟨Y,rfl,e⟩
 ·obtain⟨X,P,o,p,r,s,t,u,v,x,g,y,⟨U,aa,T,V,Z,Q,R,ag,z,A,h⟩,q⟩:=e;refine aj ⟨ad,f,sa,sl,sc,pa,pl,pc,ka,kl,kc,rfl,X,o,p,r,s,t,u,v,x,g,y,⟨C,U,_,aa,T,V,Z,Q,R,_,z.inside (N:=12),⟨A,h⟩,aD i g.size,λb d=>⟨?_,d.2⟩⟩,?_,q⟩
  ·rcases d.1 with m|m
   ·exact(j b m).1
   ·omega
  ·rw[<-h,eu,eu];exact List.length_eraseIdx_le S P
end
theorem P1.new(n:Nat)(x:Tm (n+1))(room:Int)(name:ap)(w:ag)(m:name.size<=9223372036854775807)(o:In w.heap.size w (n+1) x)(k:(aC (n+1) x).length<=2097152):am 42 #[af name,dw (n+1) x,ab room] w λe w'=>∃p:aw,e=.returned (.tuple #[.pointer p,ab (gg (n+1) x room name)])/\Hid (ak w w'/\(gg (n+1) x room name≠0->p=none)/\(gg (n+1) x room name=0->∃a,p=some ⟨a,0,none⟩/\w.heap.size<=a/\bE (n+1) x=0/\P1 w.heap.size a name room (cn (n+1) x) [] 201 (λb=>w.heap.size<=b/\b<w'.heap.size) w')):=by
 refine(Pj n x room name w m o k).mono ?_;rintro e w' ⟨i,j⟩;by_cases c:gg (n+1) x room name=0
 ·obtain⟨a,rfl,g⟩:=j c;obtain⟨q,f,r,v,z,u,y,h,s,t⟩:=g;exact⟨some ⟨a,0,none⟩,by rw[c],f,λd=>absurd c d,λ_=>⟨a,rfl,q,r,w.heap.size,v,[],z,u,y,[],none,0,h,t,⟨s,rfl⟩,f.size,λb d=>d⟩⟩
 ·obtain⟨rfl,l⟩:=i c;exact⟨none,rfl,l,λ_=>rfl,λd=>absurd d c⟩
def jc(x y:Int):Int×Int:=(min x y,max x y)
def qy:List Int:=(List.range 99).map λi:Nat=>(i:Int)+1
theorem BB:y∈qy ↔ 1<=y/\y<=99:=by
 simp only[qy,cm,List.mem_range];constructor
 ·rintro ⟨c,b,rfl⟩;omega
 ·intro a;exact⟨(y-1).toNat,by omega,by omega⟩
theorem oC:qy.length=99:=by simp[qy]
theorem DZ:qy.Nodup:=by
 unfold qy;refine List.Pairwise.map _ ?_ List.nodup_range;intro c b a d;exact a (by omega)
theorem Kx(i:Nat)(a:i<99):qy[i]?=some ((i:Int)+1):=by simp[qy,a]
def qQ(g:Int×Int->Bool)(x:Int):List Int:=qy.filter λy=>g (jc x y)
def Aw(g:Int×Int->Bool):Prop:=∀k,g k=true->1<=k.1/\k.1<k.2/\k.2<=99
theorem jt:y∈qQ g x ↔ (1<=y/\y<=99)/\g (jc x y)=true:=by
 rw[qQ,List.mem_filter,BB]
theorem o7(g:Int×Int->Bool)(x:Int):(qQ g x).Nodup:=DZ.sublist List.filter_sublist
theorem vD(g:Int×Int->Bool)(x:Int):(qQ g x).length<=99:=by
 have:=List.length_filter_le (λa=>g (jc x a)) qy;rw[oC]at this;exact this
theorem gU(x y:Int):jc x y=(x,y)/\x<=y\/jc x y=(y,x)/\y<=x:=by
 rcases Int.le_total x y with a|a
 ·exact ai ⟨by simp[jc,Int.min_eq_left a,Int.max_eq_right a],a⟩
 ·exact aj ⟨by simp[jc,Int.min_eq_right a,Int.max_eq_left a],a⟩
theorem G1(c:Aw g)(b:g (jc x y)=true):(1<=x/\x<=99)/\(1<=y/\y<=99)/\x≠y:=by
 have:=c _ b;rcases gU x y with⟨a,_⟩|⟨a,_⟩<;>(rw[a]at this;simp at this;omega)
theorem BI(b:Aw g)(x:Int):x∉qQ g x:=λa=>(G1 b (jt.1 a).2).2.2 rfl
def wo(g:Int×Int->Bool)(l:List Int):Int×Int->Bool:=λk=>g k && !l.contains k.1 && !l.contains k.2
theorem sU:wo g l k=true ↔ g k=true/\k.1∉l/\k.2∉l:=by
 simp[wo,and_assoc]
theorem ND:wo g l (jc x y)=true ↔ g (jc x y)=true/\x∉l/\y∉l:=by
 rw[sU];rcases gU x y with⟨d,_⟩|⟨d,_⟩
 ·rw[d]
 ·rw[d];constructor
  ·rintro ⟨a,b,c⟩;exact⟨a,c,b⟩
  ·rintro ⟨a,b,c⟩;exact⟨a,c,b⟩
theorem Aw.wo(a:Aw g)(l:List Int):Aw (wo g l):=λk b=>a k (sU.1 b).1
theorem Pt(g:Int×Int->Bool)(l r:List Int):wo (wo g l) r=wo g (l++r):=by
 funext k;rw[Bool.eq_iff_iff,sU,sU,sU];simp only[dr,not_or];constructor
 ·rintro ⟨⟨a,b,c⟩,d,e⟩;exact⟨a,⟨b,d⟩,c,e⟩
 ·rintro ⟨a,⟨b,d⟩,c,e⟩;exact⟨⟨a,b,c⟩,d,e⟩
def tK(g:Int×Int->Bool)(x:Int)(l:List Int):Int×Int->Bool:=l.foldl (λg y=>iN g (jc x y) false) g
theorem AV:tK g x l k=true ↔ g k=true/\∀y∈l,k≠jc x y:=by
 induction l generalizing g with
 | nil=>simp[tK]
 | cons y l ih=>
  have b:tK g x (y::l)=tK (iN g (jc x y) false) x l:=rfl;rw[b,ih];unfold iN;by_cases a:k=jc x y
  ·simp[a]
  ·simp[a]
theorem Gf(g:Int×Int->Bool)(x:Int)(l:List Int)(y:Int):tK g x (l++ [y])=iN (tK g x l) (jc x y) false:=by simp[tK]
theorem Mc(i:Aw g)(x:Int):tK g x (qQ g x)=wo g [x]:=by
 funext k;rw[Bool.eq_iff_iff,AV,sU];refine and_congr_right λd=>?_;have l:=i k d;simp only[dS];constructor
 ·intro e;refine⟨λb=>?_,λb=>?_⟩
  ·have c:k=jc x k.2:=by
     rcases gU x k.2 with⟨a,_⟩|⟨_,a⟩
     ·rw[a,<-b]
     ·omega
   exact e k.2 (jt.2 ⟨by omega,c▸d⟩) c
  ·have c:k=jc x k.1:=by
     rcases gU x k.1 with⟨_,a⟩|⟨a,_⟩
     ·omega
     ·rw[a,<-b]
   exact e k.1 (jt.2 ⟨by omega,c▸d⟩) c
 ·rintro ⟨f,h⟩ j _ b;rcases gU x j with⟨a,_⟩|⟨a,_⟩
  ·exact f (by rw[b,a])
  ·exact h (by rw[b,a])
/-! ### who is told -/
def zw(t l:List Int):List Int:=l.filter λy=> !t.contains y
def dp(g:Int×Int->Bool)(x:Int):Nat->List Int
 | 0=>qQ g x
 | i+1=>match (dp g x i)[i]? with
  | some y=>dp g x i++zw (dp g x i) (qQ (wo g (x::(dp g x i).take i)) y)
  | none=>dp g x i
def tB(g:Int×Int->Bool)(x:Int):List Int:=dp g x 99
theorem rF:y∈zw t l ↔ y∈l/\y∉t:=by simp[zw]
structure Told (g:Int×Int->Bool) (x:Int) (l:List Int):Prop where
 nodup:l.Nodup
 self:x∉l
 rng:∀y∈l,1<=y/\y<=99
 from':∀i y,l[i]?=some y->∃k∈x::l.take i,y∈qQ g k
theorem zB(c:t.Nodup)(d:l.Nodup)(e:∀y∈l,y∉t):(t++l).Nodup:=by
 rw[fz];exact⟨c,d,λh f b g a=>e b g (a▸f)⟩
theorem tq(c:l.Nodup)(g:l[i]?=some y):y∉l.take i:=by
 intro f;obtain⟨h,d,a⟩:=List.getElem_of_mem f;rw[dL]at d;rw[List.getElem_take]at a;obtain⟨e,b⟩:=aX.1 g;exact(List.pairwise_iff_getElem.1 c) h i (by omega) e (by omega) (a.trans b.symm)
theorem jg{g:Int×Int->Bool}(e:Aw g)(x:Int):∀i,Told g x (dp g x i)
 | 0=>⟨o7 g x,BI e x,λy c=>(jt.1 c).1,λi y c=>⟨x,by simp,aN c⟩⟩
 | i+1=>by
  have ih:=jg e x i;unfold dp;split
  ·rename_i y c;refine⟨zB ih.nodup ((o7 _ _).sublist List.filter_sublist) λd b=>(rF.1 b).2,?_,?_,?_⟩
   ·intro a;rcases dr.1 a with a|a
    ·exact ih.self a
    ·have:=(ND.1 (jt.1 (rF.1 a).1).2).2.2;simp at this
   ·intro d b;rcases dr.1 b with a|a
    ·exact ih.rng d a
    ·exact(jt.1 (rF.1 a).1).1
   ·intro j d b;rw[List.getElem?_append]at b;split at b
    ·rename_i h;obtain⟨k,l,m⟩:=ih.from' j d b;refine⟨k,?_,m⟩;rw[g8 (by omega)];exact l
    ·rename_i h;have f:=rF.1 (aN b);refine⟨y,?_,jt.2 ⟨(jt.1 f.1).1,(ND.1 (jt.1 f.1).2).1⟩⟩;refine bR _ ?_;rw[List.take_append];refine List.mem_append_left _ ?_;rw[bF (by omega)];exact aN c
  ·exact ih
theorem Kk(a:l.Nodup):∀{r:List Int},(∀y∈l,y∈r)->l.length<=r.length:=by
 induction l with
 | nil=>simp
 | cons y l ih=>
  intro r b;rw[mZ]at a;have c:=b y (by simp);have:=ih a.2 (r:=r.erase y) λe d=>(List.mem_erase_of_ne (λf:e=y=>a.1 (f▸d))).2 (b e (by simp[d]));rw[List.length_erase_of_mem c]at this;have:=List.length_pos_of_mem c;simp;omega
theorem Told.le(a:Told g x l):l.length<=99:=by
 have:=Kk a.nodup (r:=qy) λc b=>BB.2 (a.rng c b);rwa [oC]at this
theorem qJ{g:Int×Int->Bool}{x:Int}{i:Nat}(a:(dp g x i).length<=i):∀j,dp g x (i+j)=dp g x i
 | 0=>rfl
 | j+1=>by
  have ih:=qJ a j;have:dp g x (i+j+1)=dp g x (i+j):=by
   rw[dp];rw[eN (by rw[ih];omega)]
  rw[<-Nat.add_assoc,this,ih]
theorem Im(e:Aw g)(d:(dp g x i).length<=i):dp g x i=tB g x:=by
 unfold tB;rcases Nat.le_total i 99 with a|a
 ·obtain⟨b,c⟩:=Nat.le.dest a;rw[<-c,qJ d b]
 ·obtain⟨b,rfl⟩:=Nat.le.dest a;exact qJ ((jg e x 99).le) b
theorem Ey(a:Aw g)(x:Int):Told g x (tB g x):=jg a x 99
theorem MP{u v:Int}:jc u v=jc x y ↔ (u=x/\v=y)\/(u=y/\v=x):=by
 rcases gU x y with⟨a,c⟩|⟨a,c⟩<;>rcases gU u v with⟨b,d⟩|⟨b,d⟩<;>(rw[a,b];simp only[ew];omega)
theorem Hk(i:Nat)(a:i<99):qy.take (i+1)=qy.take i++ [(i:Int)+1]:=by
 rw[dz,Kx i a];rfl
def rK(g:Int×Int->Bool)(x:Int)(i:Nat):List Int:=(qy.take i).filter λy=>g (jc x y)
theorem G2(g:Int×Int->Bool)(x:Int)(i:Nat)(a:i<99):rK g x (i+1)=rK g x i++if g (jc x ((i:Int)+1))then [(i:Int)+1]else []:=by
 rw[rK,Hk i a,List.filter_append,List.filter_cons,List.filter_nil];rfl
theorem Km(g:Int×Int->Bool)(x:Int):rK g x 99=qQ g x:=by
 rw[rK,bF (by rw[oC];exact ao _)];rfl
theorem BJ(g:Int×Int->Bool)(x:Int)(i:Nat):(rK g x i).length<=i:=by
 have:=List.length_filter_le (λa=>g (jc x a)) (qy.take i);rw[dL]at this;unfold rK;omega
theorem GX(t l:List Int)(y:Int)(b:y∉l):zw t (l++ [y])=zw t l++if (t++zw t l).contains y then []else [y]:=by
 unfold zw;rw[List.filter_append,List.filter_cons,List.filter_nil];have a:(t++l.filter λy=> !t.contains y).contains y=t.contains y:=by
  rw[Bool.eq_iff_iff];simp[b]
 rw[a];cases t.contains y<;>rfl
structure SM (base mb n:Nat) (g:Int×Int->Bool) (w:ag):Prop where
 lo:base<=mb
 map:∃D:DataW av,w.ownsMap Tryz.prog 44 unitElem mb n D/\∀k,I2 k->has D (kl k)=g k
variable {base mb n:Nat} {g:Int×Int->Bool} {w:ag}
theorem SM.lt(a:SM base mb n g w):base<=mb/\mb<w.heap.size:=by
 obtain⟨c,b,_⟩:=a.map;exact⟨a.lo,b.lt⟩
theorem SM.kee(a:SM base mb n g w)(k:bB S w w')(f:¬S mb):SM base mb n g w':=by
 obtain⟨c,b,e⟩:=a.map;refine⟨a.lo,c,?_,e⟩;have i:=b.lt;obtain⟨es,d,h,j⟩:=b;exact⟨es,d,(k.block mb i f).trans h,j⟩
theorem SM.later(a:SM base mb n g w)(k:ak w w'):SM base mb n g w':=a.kee (aO k λ_=>False) id
theorem SM.rebase(b:SM base mb n g w)(c:a<=base):SM a mb n g w:=⟨aD c b.lo,b.map⟩
theorem SM.mono(b:SM base mb n g w){m:Nat}(f:n<=m):SM base mb m g w:=by
 obtain⟨c,a,d,e⟩:=b;exact⟨c,a,d.mono f,e⟩
theorem SM.new(w:ag):SM w.heap.size w.heap.size 0 (λ_=>false) (w.alloc (.map #[] 0)):=
 ⟨ao _,.map [],pG w _ _ _,λk _=>by simp[has]⟩
theorem CO(w:ag):(zeroValue 254).run Tryz.prog w=.ok (.agg #[]) w:=by kernel_rfl
theorem SM.look(b:SM base mb n g w)(a:I2 k):(Instr.lookup 70 (.map (some mb)) (pk k) true).run Tryz.prog w=.ok (.tuple #[.agg #[],.bool (g k)]) w:=by
 obtain⟨h,c,d⟩:=b.map;obtain⟨i,ps,e,f⟩:=c.look_ok dU underlying70 (CO w) unitElem_mk (fp a);obtain⟨rfl,_⟩:=unitElem_inv f;rw[e,d k a]
theorem Ej(w:ag)(b:I2 k):(Instr.lookup 70 (.map none) (pk k) true).run Tryz.prog w=.ok (.tuple #[.agg #[],.bool false]) w:=by
 have a:=look_nil (P:=Tryz.prog) (w:=w) true dU underlying70 (CO w) (fp b);simpa using a
theorem SM.put(d:SM base mb n g w)(c:I2 k)(s:n<1000000):∃w2,(Instr.mapUpdate 70 (.map (some mb)) (pk k) (.agg #[])).run Tryz.prog w=.ok () w2/\SM base mb (n+1) (iN g k true) w2/\bB (λb=>b=mb) w w2/\w2.heap.size=w.heap.size:=by
 obtain⟨r,e,j⟩:=d.map;obtain⟨w2,o,m,q⟩:=e.store dU underlying70 (by unfold maxLen;omega) (fp c) unitElem_mk;obtain⟨l,p⟩:=jh q;refine⟨w2,o,⟨d.lo,_,m,λh f=>?_⟩,l,p⟩;by_cases a:h=k
 ·rw[a,cU,has_put_same e.isMap (dU.key (fp c))]
 ·rw[bY _ _ a,has_put_other λi=>a (l7 f c i)];exact j h f
theorem SM.drop(c:SM base mb n g w){k:Int×Int}(e:I2 k)(ty:TypeId):∃w2,(Builtin.delete_ #[70,44] ty #[.map (some mb),pk k]).run Tryz.prog w=.ok (.tuple #[]) w2/\SM base mb n (iN g k false) w2/\bB (λb=>b=mb) w w2/\w2.heap.size=w.heap.size:=by
 obtain⟨r,i,j⟩:=c.map;obtain⟨w2,o,m,q⟩:=i.drop dU underlying70 (fp e) ty;obtain⟨l,p⟩:=jh q;refine⟨w2,o,⟨c.lo,_,m,λf d=>?_⟩,l,p⟩;by_cases a:f=k
 ·rw[a,cU,has_del_same]
 ·rw[bY _ _ a,has_del_other λh=>a (l7 d e h)];exact j f d
/-! ### rows of numbers -/
def jR(l:List Int):List av:=l.map (Value.int .i64)
theorem lP(l:List Int)(k:Int):jR (l++ [k])=jR l++ [ab k]:=by simp[jR]
def iL(base:Nat)(v:av)(l:List Int)(w:ag):Prop:=w.ownsRow base 3 1 v l.length (jR l)
def qT(v:av)(l:List Int)(w:ag):Prop:=∃a c,v=ae a l.length c/\(l=[]\/∃g o,a=some ⟨g,o,none⟩/\g<w.heap.size/\∀(i:Nat)(k:Int),l[i]?=some k->w.cell? ⟨g,o+i,none⟩=some (ab k))
theorem iL.row(c:iL base v l w):qT v l w:=by
 have d:=c;rcases c.2 with⟨rfl,b⟩|⟨g,cap,i,rfl,_,e,_⟩
 ·exact⟨none,0,by rw[b],ai (bJ b)⟩
 ·refine⟨some ⟨g,0,none⟩,cap,rfl,aj ⟨g,0,rfl,(aJ.1 e).1,λh k f=>?_⟩⟩;have a:=d.cells (g:=g) rfl h (ab k) (by simp[jR,f]);rw[en,de]at a;rw[de];exact a
theorem iL.nil(base:Nat)(w:ag):iL base (ae none 0 0) [] w:=⟨rfl,ai ⟨rfl,rfl⟩⟩
theorem iL.later(a:iL base v l w)(k:ak w w'):iL base v l w':=bu a (aO k λ_=>False) λ_ _ a=>a
theorem qT.later(a:qT v l w)(k:ak w w'):qT v l w':=by
 obtain⟨g,c,b,a⟩:=a;refine⟨g,c,b,?_⟩;rcases a with a|⟨d,o,b,e,a⟩
 ·exact ai a
 ·exact aj ⟨d,o,b,aW e k.size,λf i h=>(k.cell (p:=⟨d,o+f,none⟩) e).trans (a f i h)⟩
def nY(a:Int):Bool:=decide (1<=a) && decide (a<=99)
theorem mq(a:Int)(w:ag):am 162 #[ab a] w λe w'=>e=.returned (.bool (nY a))/\w'=w:=by
 go_enter func162,ntmps162;by_cases b:1<=a
 ·go_wp2_with fail
  go_ret
  exact⟨bU (by simp[nY,b]),rfl⟩
 ·go_wp2_with fail
  go_ret
  exact⟨bU (by simp[nY];omega),rfl⟩
theorem oP(x y:Int)(w:ag):am 157 #[ab x,ab y] w λe w'=>e=.returned (.agg #[ab (jc x y).1,ab (jc x y).2])/\ak w w':=by
 go_enter func157,ntmps157;go_wp2_with fail
 all_goals
  exact az (v:=.agg #[ab (jc x y).1,ab (jc x y).2]) (by simp[results,results157,go_sem,jc]<;>omega) rfl ⟨rfl,(aq _ _).alloc (ao _) _⟩
theorem ki{base e sz:Nat}{xs:List av}{d:ag}{o:Obj}(f:w.ownsRow base e sz v n xs)(c:(w.alloc o).grownBy d v.ownBlock)(g:base<=w.heap.size):Below base w d:=by
 have a:Below base w (w.alloc o):=(aq _ _).alloc g _;refine⟨c.os.trans a.os,c.tape.trans a.tape,c.output.trans a.output,aD a.size c.size,λb h=>(c.block b (by simp;omega) λe=>?_).trans (a.block b h)⟩;have:=(f.lt b e.symm).1;omega
theorem zG(b:dC x)(c:dC y):I2 (jc x y):=by
 rcases gU x y with⟨a,_⟩|⟨a,_⟩<;>rw[a]
 ·exact⟨b,c⟩
 ·exact⟨c,b⟩
theorem Pg(b:Nat)(a:b<=1000):dC (b:Int):=by unfold dC;omega
theorem Jc(g:Int×Int->Bool)(i:BL)(R:Option Nat)(x:Int)(w:ag)(aj:i.b<w.heap.size)(ay:Hid (dC x))(af:Hid (w.cell? ⟨i.b,i.o,none⟩=some (.map R)))(s:Hid (∀k,I2 k->∀W,ak w W->(Instr.lookup 70 (.map R) (pk k) true).run Tryz.prog W=.ok (.tuple #[.agg #[],.bool (g k)]) W)):am 156 #[.pointer (some ⟨i.b,i.o,none⟩),ab x] w λe w'=>∃v,e=.returned v/\Hid (iL w.heap.size v (qQ g x) w'/\ak w w'):=by
 obtain⟨C,al,ar,av,aw⟩:=bW Fi;have l:Hid (Tryz.prog.info? 3=some C/\C.zero=some (ab 0)/\C.size=1/\C.bytes=8):=⟨al,ar,av,aw⟩;clear al ar av aw;go_enter func156,ntmps156;go_wp2_with fail;go_loopw [5,6] (λv ad wr=>∃(b:Nat),1<=b/\b<=100/\ad=ab b/\(∃q d c,v=ae q d c/\d<=99/\Hid ((rK g x (b-1)).length=d/\wr.ownsRow w.heap.size 3 1 (ae q d c) d (jR (rK g x (b-1)))/\ak w wr))) (λ_ ad _=>100-(intOf ad).toNat)
 case atStart=>exact⟨1,by omega,by omega,rfl,none,0,0,rfl,by omega,rfl,⟨rfl,ai ⟨rfl,rfl⟩⟩,aq _ _⟩
 case round=>
  obtain⟨b,aE,F,rfl,q,d,c,rfl,Y,a⟩:=hrel;by_cases aC:b<=99
  ·have aD:(b:Int)<=99:=by omega
   have X:wr.cell? ⟨i.b,i.o,none⟩=some (.map R):=(a.2.2.cell (p:=⟨i.b,i.o,none⟩) aj).trans af;have ah:Hid (I2 (jc x b)):=zG ay (Pg b (by omega));have j:Hid (rK g x b=rK g x (b-1)++if g (jc x b)then [(b:Int)]else []):=by
    have y:=G2 g x (b-1) (by omega);have az:b-1+1=b:=by omega
    have aA:((b-1:Nat):Int)+1=(b:Int):=by omega
    rw[az,aA]at y;exact y
   have O:=λW Z=>s (jc x b) ah W (a.2.2.trans (Below.mono Z a.2.2.size));have aa:=λW=>oP x b W;obtain⟨t,ap⟩:∃t,t=g (jc x b):=⟨_,rfl⟩;rw[<-ap]at O j;have V:=au (show d<=b-1 by have:=BJ g x (b-1);have:=a.1;omega);unfold pk at O;obtain⟨⟨aG,aH⟩,aB⟩:∃p,p=jc x b:=⟨_,rfl⟩;rw[<-aB]at O aa;have J:=au aa;replace s:=au O;have B:Hid (∀W,ak wr W->W.cell? ⟨i.b,i.o,none⟩=some (.map R)):=λW Z=>((a.2.2.trans (Below.mono Z a.2.2.size)).cell (p:=⟨i.b,i.o,none⟩) aj).trans af;have D:Hid (ak wr wr.drew):=(aq _ _).drew;have E:Hid (∀o:Obj,ak wr (wr.alloc o).drew):=λo=>((aq _ _).alloc (ao _) o).drew;clear ap O aa ah;go_wp2_with fail
   go_region_held3 (λW=>W.cell? ⟨i.b,i.o,none⟩=some (.map R)) (first|(go_keep;done)|exact B _ D|exact B _ (E _)|exact B _ (f.alloc f.size _)|exact B _ f) ((first
    | (go_at_call 157;refine(J _).mono ?_;rintro e G ⟨rfl,F⟩;have f:=au (D.trans (F.mono D.size));have U:=s _ f;have an:=s _ (f.alloc f.size (.cells #[] 254));clear F)
    | (go_at_call 157;refine(J _).mono ?_;rintro e G ⟨rfl,F⟩;have f:=au ((E _).trans (F.mono (E _).size));have U:=s _ f;clear F)))
   ·obtain⟨h,r⟩:∃h,h=G.alloc (.cells #[] 254):=⟨_,rfl⟩;rw[<-r];have n:Hid (ak wr h):=by rw[r];exact f.alloc f.size _
    obtain⟨S,Q⟩:∃S,S=G.heap.size:=⟨_,rfl⟩;rw[<-Q];clear r an Q;have HB:=au (a.2.2.trans (n.mono a.2.2.size));have m:=au (bu a.2.1 (aO n λ_=>False) λ_ _ y=>y);have u:=au a.1;have K:=au HB.size;clear a f n s J B D E U X;cases t
    ·go_wp2_with fail;go_roundw
     case rel=>exact⟨b+1,by omega,by omega,by go_num,q,d,c,rfl,Y,by rw[eO,j.out];simpa using u.out,by rw[eO,j.out];simpa using m.out,HB.out⟩
     case measure=>simp[intOf];omega
    ·go_wp2_with (first
       | (at_builtin;refine wpList_append_lies _ rfl _ _ 25 rfl w.heap.size 3 C _ 1 8 underlying25 l.1 l.2.1 l.2.2.1 l.2.2.2 rfl (by decide) (ae q d c) d (jR (rK g x (b-1))) rfl (m.alloc _) ⟨h.heap.size,0,none⟩ 1 1 [ab b] rfl rfl (World.news_of_block (cs:= #[ab b]) (t:=3) (fr:=(0,0)) (aF h _)) (by simp[Value.oneCell']) (by decide) (by unfold maxLen;omega) (by omega) (by have:=K.out;simp;omega) _ rfl ?_;intro M L ax A z N P;have I:=au A;have H:=au (HB.trans (ki m z HB.size));clear A z N P))
     go_roundw
     case rel=>
      refine⟨b+1,by omega,by omega,by go_num,some ⟨M,0,none⟩,d+1,L,rfl,by have:=V.out;omega,?_,?_,H⟩
      ·rw[eO,j.out];simpa using u.out
      ·rw[eO,j.out,if_pos rfl,lP];exact I
     case measure=>simp[intOf];omega
   ·obtain⟨h,r⟩:∃h,h=G.alloc (.cells #[] 254):=⟨_,rfl⟩;rw[<-r];have n:Hid (ak wr h):=by rw[r];exact f.alloc f.size _
    obtain⟨S,Q⟩:∃S,S=G.heap.size:=⟨_,rfl⟩;rw[<-Q];clear r Q;have HB:=au (a.2.2.trans (n.mono a.2.2.size));have m:=au (bu a.2.1 (aO n λ_=>False) λ_ _ y=>y);have u:=au a.1;have K:=au HB.size;clear a f n s J B D E U an X;cases t
    ·go_wp2_with fail;go_roundw
     case rel=>exact⟨b+1,by omega,by omega,by go_num,q,d,c,rfl,Y,by rw[eO,j.out];simpa using u.out,by rw[eO,j.out];simpa using m.out,HB.out⟩
     case measure=>simp[intOf];omega
    ·go_wp2_with (first
       | (at_builtin;refine wpList_append_lies _ rfl _ _ 25 rfl w.heap.size 3 C _ 1 8 underlying25 l.1 l.2.1 l.2.2.1 l.2.2.2 rfl (by decide) (ae q d c) d (jR (rK g x (b-1))) rfl (m.alloc _) ⟨h.heap.size,0,none⟩ 1 1 [ab b] rfl rfl (World.news_of_block (cs:= #[ab b]) (t:=3) (fr:=(0,0)) (aF h _)) (by simp[Value.oneCell']) (by decide) (by unfold maxLen;omega) (by omega) (by have:=K.out;simp;omega) _ rfl ?_;intro M L ax A z N P;have I:=au A;have H:=au (HB.trans (ki m z HB.size));clear A z N P))
     go_roundw
     case rel=>
      refine⟨b+1,by omega,by omega,by go_num,some ⟨M,0,none⟩,d+1,L,rfl,by have:=V.out;omega,?_,?_,H⟩
      ·rw[eO,j.out];simpa using u.out
      ·rw[eO,j.out,if_pos rfl,lP];exact I
     case measure=>simp[intOf];omega
   ·obtain⟨h,r⟩:∃h,h=G:=⟨_,rfl⟩;subst r;have n:=au f.out;have HB:=au (a.2.2.trans (n.mono a.2.2.size));have m:=au (bu a.2.1 (aO n λ_=>False) λ_ _ y=>y);have u:=au a.1;have K:=au HB.size;clear a f n s J B D E U X;cases t
    ·go_wp2_with fail;go_roundw
     case rel=>exact⟨b+1,by omega,by omega,by go_num,q,d,c,rfl,Y,by rw[eO,j.out];simpa using u.out,by rw[eO,j.out];simpa using m.out,HB.out⟩
     case measure=>simp[intOf];omega
    ·go_wp2_with (first
       | (at_builtin;refine wpList_append_lies _ rfl _ _ 25 rfl w.heap.size 3 C _ 1 8 underlying25 l.1 l.2.1 l.2.2.1 l.2.2.2 rfl (by decide) (ae q d c) d (jR (rK g x (b-1))) rfl (m.alloc _) ⟨h.heap.size,0,none⟩ 1 1 [ab b] rfl rfl (World.news_of_block (cs:= #[ab b]) (t:=3) (fr:=(0,0)) (aF h _)) (by simp[Value.oneCell']) (by decide) (by unfold maxLen;omega) (by omega) (by have:=K.out;simp;omega) _ rfl ?_;intro M L ax A z N P;have I:=au A;have H:=au (HB.trans (ki m z HB.size));clear A z N P))
     go_roundw
     case rel=>
      refine⟨b+1,by omega,by omega,by go_num,some ⟨M,0,none⟩,d+1,L,rfl,by have:=V.out;omega,?_,?_,H⟩
      ·rw[eO,j.out];simpa using u.out
      ·rw[eO,j.out,if_pos rfl,lP];exact I
     case measure=>simp[intOf];omega
  ·obtain rfl:b=100:=by omega
   have T:=a.out;go_wp2_with fail
   go_ret
   refine⟨_,rfl,?_,T.2.2⟩;have e:=Km g x;rw[show 100-1=99 from rfl]at T;rw[<-e];unfold iL;rw[T.1];exact T.2.1
def eU(base:Nat)(c:BL)(a:Option Nat)(n:Nat)(g:Int×Int->Bool)(w:ag):Prop:=
 base<=c.b/\tH c a w/\((a=none/\g=λ_=>false)\/∃mb,a=some mb/\SM base mb n g w)
def LS(a:BL)(c:Option Nat)(b:Nat):Prop:=b=a.b\/c=some b
variable {base n:Nat} {bp:BL} {mo:Option Nat} {g:Int×Int->Bool} {w:ag}
theorem eU.lt(d:eU base bp mo n g w)(b:Nat)(a:LS bp mo b):base<=b/\b<w.heap.size:=by
 rcases a with rfl|a
 ·exact⟨d.1,d.2.1.lt⟩
 ·rcases d.2.2 with⟨c,_⟩|⟨mb,c,e⟩
  ·rw[c]at a;cases a
  ·rw[c]at a;injection a with a;subst a;exact e.lt
theorem eU.kee{S:aR}{w':ag}(c:eU base bp mo n g w)(k:bB S w w')(d:∀b,LS bp mo b->¬S b):eU base bp mo n g w':=by
 refine⟨c.1,c.2.1.kept (k.block bp.b (c.lt bp.b (ai rfl)).2 (d bp.b (ai rfl))),?_⟩;rcases c.2.2 with a|⟨mb,a,e⟩
 ·exact ai a
 ·exact aj ⟨mb,a,e.kee k (d mb (aj a))⟩
theorem eU.later(a:eU base bp mo n g w)(k:ak w w'):eU base bp mo n g w':=a.kee (aO k λ_=>False) λ_ _ a=>a
theorem eU.cell(a:eU base bp mo n g w):w.cell? ⟨bp.b,bp.o,none⟩=some (.map mo)/\w.frozen? ⟨bp.b,bp.o,none⟩=false:=⟨a.2.1.cell.1,a.2.1.cell.2 _⟩
theorem eU.look(b:eU base bp mo n g w){k:Int×Int}(a:I2 k):(Instr.lookup 70 (.map mo) (pk k) true).run Tryz.prog w=.ok (.tuple #[.agg #[],.bool (g k)]) w:=by
 rcases b.2.2 with⟨rfl,rfl⟩|⟨mb,rfl,c⟩
 ·exact Ej w a
 ·exact c.look a
theorem eU.ne(d:eU base bp (some a) n g w):bp.b≠a:=by
 intro f;rcases d.2.2 with⟨c,_⟩|⟨k,c,h⟩
 ·cases c
 ·injection c with c;subst c f;obtain⟨i,⟨es,j,e,_⟩,_⟩:=h.map;rw[d.2.1.2]at e;cases e
theorem LW(a:eU base bp mo n g w)(f:dC x):am 156 #[.pointer (some ⟨bp.b,bp.o,none⟩),ab x] w λe w'=>∃v,e=.returned v/\Hid (iL w.heap.size v (qQ g x) w'/\ak w w'):=
 Jc g bp mo x w (a.lt bp.b (ai rfl)).2 f a.cell.1 λ_ d _ c=>(a.later c).look d
theorem LY(mb:Nat)(W:ag):(binOp .eql 70 (.map (some mb)) (.map none)).run Tryz.prog W=.ok (.bool false) W:=by kernel_rfl
theorem LX(W:ag):(binOp .eql 70 (.map none) (.map none)).run Tryz.prog W=.ok (.bool true) W:=by kernel_rfl
theorem Ja(bp:BL)(mb:Nat)(x y:Int)(w:ag)(g:ag->Prop)(v:bp.b<w.heap.size)(i:Hid (w.cell? ⟨bp.b,bp.o,none⟩=some (.map (some mb))))(l:Hid (nY x=true/\nY y=true))(C:x≠y)(k:Hid (∀W,ak w W->∃w2,(Instr.mapUpdate 70 (.map (some mb)) (.agg #[ab (jc x y).1,ab (jc x y).2]) (.agg #[])).run Tryz.prog W=.ok () w2/\w2.cell? ⟨bp.b,bp.o,none⟩=some (.map (some mb))/\Hid (g w2))):am 122 #[.pointer (some ⟨bp.b,bp.o,none⟩),ab x,ab y] w λe w'=>e=.returned (ab 0)/\g w':=by
 have B:=i.out;have c:=λW=>mq x W;have d:=λW=>mq y W;have D:=LY mb;rw[l.out.1]at c;rw[l.out.2]at d;have n:=au c;have q:=au d;clear c d;have f:=λW=>oP x y W;obtain⟨⟨F,G⟩,A⟩:∃p,p=jc x y:=⟨_,rfl⟩;rw[<-A]at f k;have t:=au f;clear f;have j:Hid (∀W,ak w W->W.cell? ⟨bp.b,bp.o,none⟩=some (.map (some mb))):=λW u=>(u.cell (p:=⟨bp.b,bp.o,none⟩) v).trans i;have a:Hid (ak w w.drew):=(aq _ _).drew;go_enter func122,ntmps122;go_wp2_with fail;refine(n _).mono ?_;rintro e H ⟨rfl,rfl⟩;go_wp2_with fail;refine(q _).mono ?_;rintro e w2 ⟨rfl,rfl⟩;go_wp2_with fail
 go_region_held3 (λW=>W.cell? ⟨bp.b,bp.o,none⟩=some (.map (some mb))) (first|(go_keep;done)|exact j _ a|exact j _ h|exact r) ((first
       | (go_at_call 157;refine(t _).mono ?_;rintro e I ⟨rfl,m⟩;have h:=au (a.trans (m.mono a.size));obtain⟨J,E,z,s⟩:=k _ h;have r:=au z;clear m)))
 go_wp2_with fail
 go_ret
 exact⟨rfl,s⟩
theorem F4(bp:BL)(x y:Int)(w w0:ag)(g:ag->Prop)(H:bp.b<w.heap.size)(s:Hid (w.cell? ⟨bp.b,bp.o,none⟩=some (.map none)/\w.frozen? ⟨bp.b,bp.o,none⟩=false))(l:Hid (nY x=true/\nY y=true))(J:x≠y)(n:w0=(w.setCell ⟨bp.b,bp.o,none⟩ (.map (some w.heap.size))).alloc (.map #[] 0))(i:Hid (w0.cell? ⟨bp.b,bp.o,none⟩=some (.map (some w.heap.size))))(B:bp.b<w0.heap.size)(k:Hid (∀W,ak w0 W->∃w2,(Instr.mapUpdate 70 (.map (some w.heap.size)) (.agg #[ab (jc x y).1,ab (jc x y).2]) (.agg #[])).run Tryz.prog W=.ok () w2/\w2.cell? ⟨bp.b,bp.o,none⟩=some (.map (some w.heap.size))/\Hid (g w2))):am 122 #[.pointer (some ⟨bp.b,bp.o,none⟩),ab x,ab y] w λe w'=>e=.returned (ab 0)/\g w':=by
 obtain⟨E,G⟩:=s;have c:=λW=>mq x W;have d:=λW=>mq y W;have K:=LX;have I:= @run_makeMap Tryz.prog;rw[l.out.1]at c;rw[l.out.2]at d;have q:=au c;have r:=au d;clear c d;have f:=λW=>oP x y W;obtain⟨⟨M,N⟩,D⟩:∃p,p=jc x y:=⟨_,rfl⟩;rw[<-D]at f k;have v:=au f;have z:=au n;clear f n;have j:Hid (∀W,ak w0 W->W.cell? ⟨bp.b,bp.o,none⟩=some (.map (some w.heap.size))):=λW A=>(A.cell (p:=⟨bp.b,bp.o,none⟩) B).trans i;have a:Hid (ak w0 w0.drew):=(aq _ _).drew;go_enter func122,ntmps122;go_wp2_with fail;refine(q _).mono ?_;rintro e O ⟨rfl,rfl⟩;go_wp2_with fail;refine(r _).mono ?_;rintro e w2 ⟨rfl,rfl⟩;go_wp2_with fail;rw[<-z.out];have F:=i.out
 go_region_held3 (λW=>W.cell? ⟨bp.b,bp.o,none⟩=some (.map (some w2.heap.size))) (first|(go_keep;done)|exact j _ a|exact j _ h|exact t) ((first
       | (go_at_call 157;refine(v _).mono ?_;rintro e P ⟨rfl,m⟩;have h:=au (a.trans (m.mono a.size));obtain⟨Q,L,C,u⟩:=k _ h;have t:=au C;clear m)))
 go_wp2_with fail
 go_ret
 exact⟨rfl,u⟩
theorem F0(bp:BL)(x y:Int)(w:ag)(a:nY x=false\/nY y=false\/x=y):am 122 #[.pointer (some ⟨bp.b,bp.o,none⟩),ab x,ab y] w λe w'=>e=.returned (ab 1)/\w'=w:=by
 have f:=λc=>mq x c;have g:=λc=>mq y c;obtain⟨d,h⟩:∃d,d=nY x:=⟨_,rfl⟩;obtain⟨b,i⟩:∃b,b=nY y:=⟨_,rfl⟩;rw[<-h]at f a;rw[<-i]at g a;have k:=au f;have l:=au g;have m:=au a;clear f g h i a;go_enter func122,ntmps122;go_wp2_with fail;refine(k _).mono ?_;rintro e p ⟨rfl,rfl⟩;cases d
 ·go_wp2_with fail
  go_ret
  exact⟨rfl,rfl⟩
 ·go_wp2_with fail;refine(l _).mono ?_;rintro e q ⟨rfl,rfl⟩;cases b
  ·go_wp2_with fail
   go_ret
   exact⟨rfl,rfl⟩
  ·have j:x=y:=by simpa using m.out
   have n:=au j;subst j;go_wp2_with fail
   go_ret
   exact⟨rfl,rfl⟩
variable {base n:Nat} {bp:BL} {mo:Option Nat} {g:Int×Int->Bool} {w:ag}
def vq(x y:Int):Int:=if nY x=true/\nY y=true/\x≠y then 0 else 1
def NJ(base:Nat)(bp:BL)(mo:Option Nat)(n:Nat)(g:Int×Int->Bool)(w w':ag):Prop:=
 ∃a,eU base bp a n g w'/\bB (LS bp mo) w w'/\∀b,LS bp a b->LS bp mo b\/w.heap.size<=b
theorem eU.mono(b:eU base bp mo n g w){m:Nat}(c:n<=m):eU base bp mo m g w:=by
 refine⟨b.1,b.2.1,?_⟩;rcases b.2.2 with a|⟨mb,a,d⟩
 ·exact ai a
 ·exact aj ⟨mb,a,d.mono c⟩
theorem FZ(a:eU base bp mo n g w)(A:dC x)(B:dC y)(z:n<1000000):am 122 #[.pointer (some ⟨bp.b,bp.o,none⟩),ab x,ab y] w λe w'=>e=.returned (ab (vq x y))/\Hid (NJ base bp mo (n+1) (if vq x y=0 then iN g (jc x y) true else g) w w'):=by
 have r:=a.lt bp.b (ai rfl);by_cases f:nY x=true/\nY y=true/\x≠y
 ·have q:vq x y=0:=if_pos f;rw[q,if_pos rfl];rcases a.2.2 with⟨rfl,rfl⟩|⟨p,rfl,E⟩
  ·obtain⟨h,l⟩:∃h,h=(w.setCell ⟨bp.b,bp.o,none⟩ (.map (some w.heap.size))).alloc (.map #[] 0):=⟨_,rfl⟩;have H:bB (λb=>b=bp.b) w (w.setCell ⟨bp.b,bp.o,none⟩ (.map (some w.heap.size))):=bH w bp.b bp.o _;have t:(w.setCell ⟨bp.b,bp.o,none⟩ (.map (some w.heap.size))).heap.size=w.heap.size:=by simp[World.setCell]
   have G:bB (λb=>b=bp.b) w h:=by
    rw[l];exact bB.trans H (aO ((aq _ _).alloc (ao _) _) λ_=>False) λ_ _ a=>a.elim
   have u:tH bp (some w.heap.size) h:=by
    rw[l];exact(a.2.1.set).kept (((aq _ _).alloc (ao _) _).block bp.b (by rw[t];exact r.2))
   have I:h.heap.size=w.heap.size+1:=by rw[l,iG,t]
   have D:SM base w.heap.size n (λ_=>false) h:=by
    have v:=SM.new (w.setCell ⟨bp.b,bp.o,none⟩ (.map (some w.heap.size)));rw[t,<-l]at v;exact(v.rebase (by omega)).mono (aL _)
   refine(F4 bp x y w h (λw'=>NJ base bp none (n+1) (iN (λ_=>false) (jc x y) true) w w') r.2 a.cell ⟨f.1,f.2.1⟩ f.2.2 l u.cell.1 (by omega) ?_).mono λe w' a=>⟨a.1,a.2⟩;intro C d;obtain⟨m,s,i,k,F⟩:=(D.later d).put (zG A B) z;have j:tH bp (some w.heap.size) m:=(u.kept (d.block bp.b (by omega))).kept (k.block bp.b (by have:=d.size;omega) (by omega));refine⟨m,s,j.cell.1,some w.heap.size,⟨a.1,j,aj ⟨_,rfl,i⟩⟩,?_,λb c=>?_⟩
   ·refine bB.trans (bB.trans (G.mono λb _ e=>ai e) (aO d λ_=>False) λ_ _ a=>a.elim) k λb c e=>?_;omega
   ·rcases c with c|c
    ·exact ai (ai c)
    ·injection c with c;exact aj (by omega)
  ·refine(Ja bp p x y w (λw'=>NJ base bp (some p) (n+1) (iN g (jc x y) true) w w') r.2 a.cell.1 ⟨f.1,f.2.1⟩ f.2.2 ?_).mono λe w' a=>⟨a.1,a.2⟩;intro C d;obtain⟨m,s,i,k,F⟩:=(E.later d).put (zG A B) z;have j:tH bp (some p) m:=(a.2.1.kept (d.block bp.b (by omega))).kept (k.block bp.b (by have:=d.size;omega) a.ne);refine⟨m,s,j.cell.1,some p,⟨a.1,j,aj ⟨_,rfl,i⟩⟩,?_,λb c=>ai c⟩;exact bB.trans (aO d _) k λb _ e=>aj (by rw[e])
 ·have q:vq x y=1:=if_neg f;rw[q,if_neg (by decide)];refine(F0 bp x y w ?_).mono ?_
  ·cases h1:nY x
   ·exact ai rfl
   ·cases i:nY y
    ·exact aj (ai rfl)
    ·refine aj (aj ?_);by_cases e:x=y
     ·exact e
     ·exact absurd ⟨h1,i,e⟩ f
  ·rintro e w' ⟨rfl,rfl⟩;exact⟨rfl,mo,a.mono (fX n),bB.refl _ _,λb c=>ai c⟩
theorem Du(a:aw)(c:Nat)(l:List Int)(L:Nat)(y:Int)(w:ag)(x:L<=1000000)(n:Hid (l.length=L))(q:Hid (∀(i:Nat)(k:Int),l[i]?=some k->∃g o,a=some ⟨g,o,none⟩/\w.cell? ⟨g,o+i,none⟩=some (ab k))):am 158 #[ae a L c,ab y] w λe w'=>∃r:Int,e=.returned (ab r)/\w'=w/\Hid (decide (0<=r)=l.contains y):=by
 go_enter func158,ntmps158;go_wp2_with fail;go_loopw [8] (λi wr=>∃b:Nat,b<=L/\i=ab b/\wr=w/\Hid (y∉l.take b)) (λi _=>L-(intOf i).toNat)
 case atStart=>exact⟨0,aL _,rfl,rfl,by simp[Hid]⟩
 case round=>
  obtain⟨b,u,rfl,rfl,p⟩:=hrel;by_cases s:b<L
  ·obtain⟨k,j⟩:∃k,l[b]?=some k:=⟨l[b]'(by rw[n.out];exact s),aM _⟩;obtain⟨g,o,rfl,t⟩:=q b k j;have m:=au j;clear j;have z:(0:Int)<=(b:Int):=by omega
   have A:(b:Int)<(L:Int):=by omega
   by_cases h:y=k
   ·have f:Hid (l.contains y=true):=by
      rw[h];exact List.contains_iff_mem.2 (aN m)
    subst h;go_wp2_with fail
    go_ret
    exact⟨(b:Int),rfl,rfl,by rw[f.out];simp[Hid]⟩
   ·have f:Hid (y∉l.take (b+1)):=by
      rw[dz,m.out];intro d;rcases dr.1 d with d|d
      ·exact p d
      ·exact h (by simpa using d)
    have v:¬k=y:=λe=>h e.symm;go_wp2_with fail;go_roundw
    case rel=>exact⟨b+1,by omega,by go_num,trivial,f⟩
    case measure=>simp[intOf];omega
  ·obtain rfl:b=L:=by omega
   have f:Hid (l.contains y=false):=by
    have d:=p.out;rw[bF (by rw[n.out];exact ao _)]at d;exact(show l.contains y=false by simpa using d)
   go_wp2_with fail
   go_ret
   exact⟨-1,rfl,rfl,by rw[f.out];simp[Hid]⟩
theorem qT.cells{v:av}{l:List Int}(b:qT v l w):∃a c,v=ae a l.length c/\∀(i:Nat)(k:Int),l[i]?=some k->∃g o,a=some ⟨g,o,none⟩/\w.cell? ⟨g,o+i,none⟩=some (ab k):=by
 obtain⟨a,c,d,b⟩:=b;refine⟨a,c,d,λi k e=>?_⟩;rcases b with rfl|⟨g,o,d,_,b⟩
 ·simp at e
 ·exact⟨g,o,d,b i k e⟩
theorem uZ(v:av)(y:Int)(t:Bool)(w:ag)(a:Hid (am 158 #[v,ab y] w λe w'=>∃r:Int,e=.returned (ab r)/\w'=w/\Hid (decide (0<=r)=t))):am 120 #[v,ab y] w λe w'=>e=.returned (.bool t)/\w'=w:=by
 go_enter func120,ntmps120;go_wp2_with fail;refine a.mono ?_;rintro e c ⟨r,rfl,rfl,b⟩;go_wp2_with fail
 go_ret
 exact⟨bU (by rw[<-b.out]),rfl⟩
theorem wM(b:qT v l w)(f:l.length<=1000000)(y:Int):am 120 #[v,ab y] w λe w'=>e=.returned (.bool (l.contains y))/\w'=w:=by
 obtain⟨a,c,e,d⟩:=b.cells;rw[e];exact uZ _ y _ w (Du a c l l.length y w f rfl d)
theorem Bi(a b:aw)(c d:Nat)(len:Nat)(w:ag)(x:len<=1000000)(q:Hid (∀i,i<len->∃g o h j k,(a=some ⟨g,o,none⟩/\b=some ⟨h,j,none⟩)/\w.cell? ⟨g,o+i,none⟩=some (ab k)/\w.cell? ⟨h,j+i,none⟩=some (ab k))):am 11 #[ae a len c,ae b len d] w λe w'=>e=.returned (.bool true)/\ak w w':=by
 go_enter func11,ntmps11;go_wp2_with fail;go_loopw [13] (λi wr=>∃f:Nat,f<=len/\i=ab f/\Hid (ak w wr)) (λi _=>len-(intOf i).toNat)
 case atStart=>exact⟨0,aL _,rfl,aq _ _⟩
 case round=>
  obtain⟨f,v,rfl,HB⟩:=hrel;by_cases u:f<len
  ·obtain⟨g,o,h,j,k,⟨rfl,rfl⟩,l,m⟩:=q f u;have s:=fD w ⟨g,o+f,none⟩ l;have t:=fD w ⟨h,j+f,none⟩ m;have n:=ax HB;replace l:=(n _ _ s).trans l;replace m:=(n _ _ t).trans m;clear n;have y:(0:Int)<=(f:Int):=by omega
   have z:(f:Int)<(len:Int):=by omega
   have r:Hid (ak w wr.drew):=HB.drew;go_wp2_with fail;go_region_held3 (λp=>p.cell? ⟨g,o+f,none⟩=some (ab k)/\p.cell? ⟨h,j+f,none⟩=some (ab k)) (go_keep) (fail);go_wp2_with fail;go_roundw
   case rel=>exact⟨f+1,by omega,by go_num,r⟩
   case measure=>simp[intOf];omega
  ·obtain rfl:f=len:=by omega
   go_wp2_with fail
   go_ret
   exact⟨rfl,HB⟩
theorem vb{u:av}(p:qT v l w)(q:qT u l w)(t:l.length<=1000000):am 11 #[v,u] w λe w'=>e=.returned (.bool true)/\ak w w':=by
 obtain⟨g,c,j,x⟩:=p.cells;obtain⟨b,h,k,y⟩:=q.cells;rw[j,k];refine Bi g b c h l.length w t λa d=>?_;have f:l[a]?=some (l[a]'d):=aM d;obtain⟨m,o,e,r⟩:=x a _ f;obtain⟨n,z,i,s⟩:=y a _ f;exact⟨m,o,n,z,_,⟨e,i⟩,r,s⟩
theorem C4(l:List Int)(L:Nat)(bp:BL)(mo:Option Nat)(x:Int)(w:ag)(R:aw->Nat->Nat->ag->Prop)(K:L<=99)(C:Hid (l.length=L))(D:Hid (am 156 #[.pointer (some ⟨bp.b,bp.o,none⟩),ab x] w λe w'=>∃a c,e=.returned (ae a L c)/\Hid (R a c 0 w')))(f:Hid (∀a c j W,R a c j W->W.cell? ⟨bp.b,bp.o,none⟩=some (.map mo)/\∀(i:Nat)(k:Int),l[i]?=some k->∃g o,a=some ⟨g,o,none⟩/\W.cell? ⟨g,o+i,none⟩=some (ab k)))(HB:Hid (∀a c j W d,R a c j W->ak W d->R a c j d))(A:Hid (∀a c j k W,R a c j W->l[j]?=some k->∃d,(∀ty,(Builtin.delete_ #[70,44] ty #[.map mo,.agg #[ab (jc x k).1,ab (jc x k).2]]).run Tryz.prog W=.ok (.tuple #[]) d)/\R a c (j+1) d)):am 119 #[.pointer (some ⟨bp.b,bp.o,none⟩),ab x] w λe w'=>∃a c,e=.returned (ae a L c)/\Hid (R a c L w'):=by
 go_enter func119,ntmps119;go_wp2_with fail;refine D.mono ?_;rintro e T ⟨a,c,rfl,z⟩;go_wp2_with fail;go_loopw [13] (λi wr=>∃j:Nat,j<=L/\i=ab j/\Hid (R a c j wr)) (λi _=>L-(intOf i).toNat)
 case atStart=>exact⟨0,aL _,rfl,z⟩
 case round=>
  obtain⟨j,M,rfl,h⟩:=hrel;by_cases F:j<L
  ·obtain⟨k,m⟩:∃k,l[j]?=some k:=⟨l[j]'(by rw[C.out];exact F),aM _⟩;obtain⟨H,y⟩:=f.out a c j wr h;obtain⟨g,o,rfl,I⟩:=y j k m;have B:=au m;clear m y;have O:(0:Int)<=(j:Int):=by omega
   have P:(j:Int)<(L:Int):=by omega
   have s:=au (λW=>oP x k W);have q:=au (λW (E:R (some ⟨g,o,none⟩) c j W)=>A _ _ _ k W E B);obtain⟨⟨Q,S⟩,v⟩:∃G,G=jc x k:=⟨_,rfl⟩;rw[<-v]at s q;clear v;have p:Hid (R (some ⟨g,o,none⟩) c j wr.drew):=HB _ _ _ _ _ h (aq _ _).drew;have J:=(f _ c j _ p).1;go_wp2_with fail
   go_region_held3 (λW=>W.cell? ⟨bp.b,bp.o,none⟩=some (.map mo)) (first|(go_keep;done)|exact(f _ _ _ _ n).1|exact(f _ _ _ _ r).1) ((first
    | (go_at_call 157;refine(s _).mono ?_;rintro e U ⟨rfl,t⟩;have n:=au (HB _ _ _ _ _ p t);obtain⟨V,N,u⟩:=q _ n;have r:=au u;clear t u)))
   go_wp2_with fail;go_roundw
   case rel=>exact⟨j+1,by omega,by go_num,r⟩
   case measure=>simp[intOf];omega
  ·obtain rfl:j=L:=by omega
   go_wp2_with fail
   go_ret
   exact⟨a,c,rfl,h⟩
variable {base n:Nat} {bp:BL} {mo:Option Nat} {g:Int×Int->Bool} {w:ag}
theorem eU.drop(c:eU base bp mo n g w){k:Int×Int}(h:I2 k)(f:mo≠none):∃w2,(∀ty,(Builtin.delete_ #[70,44] ty #[.map mo,pk k]).run Tryz.prog w=.ok (.tuple #[]) w2)/\eU base bp mo n (iN g k false) w2/\bB (λb=>mo=some b) w w2/\w2.heap.size=w.heap.size:=by
 have i:=λmb (a:mo=some mb)=>(show eU base bp (some mb) n g w from a▸c).ne;rcases c.2.2 with⟨a,_⟩|⟨mb,rfl,l⟩
 ·exact absurd a f
 ·obtain⟨w2,j,e,d,m⟩:=l.drop h 0;refine⟨w2,λty=>j,⟨c.1,c.2.1.kept (d.block bp.b (c.lt bp.b (ai rfl)).2 (i mb rfl)),aj ⟨mb,rfl,e⟩⟩,d.mono λb _ a=>by rw[a],m⟩
theorem eU.some(c:eU base bp mo n g w){k:Int×Int}(b:g k=true):mo≠none:=by
 rcases c.2.2 with⟨_,a⟩|⟨mb,a,_⟩
 ·rw[a]at b;cases b
 ·rw[a];simp
theorem sr(p:eU base bp mo n g w)(y:Aw g)(A:dC x):am 119 #[.pointer (some ⟨bp.b,bp.o,none⟩),ab x] w λe w'=>∃v,e=.returned v/\Hid (iL w.heap.size v (qQ g x) w'/\eU base bp mo n (wo g [x]) w'/\bB (λb=>mo=some b) w w'):=by
 have G:∀b,mo=some b->b<w.heap.size:=λb e=>(p.lt b (aj e)).2;have D:∀(d:aw)(c h:Nat)(k:Int)(a:ag),(iL w.heap.size (.slice d (qQ g x).length c) (qQ g x) a/\eU base bp mo n (tK g x ((qQ g x).take h)) a/\bB (λb=>mo=some b) w a)->(qQ g x)[h]?=some k->∃m,(∀ty,(Builtin.delete_ #[70,44] ty #[.map mo,.agg #[ab (jc x k).1,ab (jc x k).2]]).run Tryz.prog a=.ok (.tuple #[]) m)/\(iL w.heap.size (.slice d (qQ g x).length c) (qQ g x) m/\eU base bp mo n (tK g x ((qQ g x).take (h+1))) m/\bB (λb=>mo=some b) w m):=by
  rintro d c h k a ⟨j,f,s⟩ l;have F:=jt.1 (aN l);have B:I2 (jc x k):=zG A (by unfold dC;omega);have E:tK g x ((qQ g x).take h) (jc x k)=true:=by
   refine AV.2 ⟨F.2,λP I e=>?_⟩;rcases MP.1 e with⟨_,e⟩|⟨t,u⟩
   ·exact tq (o7 g x) l (e▸I)
   ·exact absurd (aN l) (by rw[u];exact BI y x)
  obtain⟨K,H,i,z,O⟩:=f.drop B (f.some E);refine⟨K,H,bu j z λb i e=>?_,?_,bB.trans s z λb _ e=>e⟩
  ·have:=(j.lt b i).1;have:=G b e;omega
  ·rw[dz,l];rw[show (some k).toList=[k]from rfl,Gf];exact i
 refine(C4 (qQ g x) (qQ g x).length bp mo x w (λd c h a=>iL w.heap.size (.slice d (qQ g x).length c) (qQ g x) a/\eU base bp mo n (tK g x ((qQ g x).take h)) a/\bB (λb=>mo=some b) w a) (vD g x) rfl ?_ ?_ ?_ D).mono ?_
 ·refine(LW p A).mono ?_;rintro e w' ⟨v,rfl,q⟩;obtain⟨d,c,e,_⟩:=q.out.1.row;subst e;exact⟨d,c,rfl,q.1,p.later q.2,aO q.2 _⟩
 ·rintro d c h a ⟨j,f,_⟩;refine⟨f.cell.1,λJ k l=>?_⟩;obtain⟨L,M,e,C⟩:=j.row.cells;injection e with t u N;subst t;exact C J k l
 ·rintro d c h a m ⟨j,f,s⟩ i;exact⟨j.later i,f.later i,bB.trans s (aO i λ_=>False) λ_ _ p=>p.elim⟩
 ·rintro e w' ⟨d,c,rfl,r⟩;refine⟨_,rfl,r.1,?_,r.2.2⟩;have f:=r.2.1;rw[bF (ao _),Mc y]at f;exact f
def fW(g:Int×Int->Bool)(x:Int)(i:Nat)(l:List Int)(j:Nat):List Int:=dp g x i++zw (dp g x i) (l.take j)
theorem qI(b:l.Nodup){j:Nat}(a:l[j]?=some y):fW g x i l (j+1)=fW g x i l j++if (fW g x i l j).contains y then []else [y]:=by
 unfold fW;rw[dz,a];rw[show (some y).toList=[y]from rfl,GX _ _ _ (tq b a),mV]
theorem yu(a:(dp g x i)[i]?=some y):fW g x i (qQ (wo g (x::(dp g x i).take i)) y) (qQ (wo g (x::(dp g x i).take i)) y).length=dp g x (i+1):=by
 rw[dp,a];unfold fW;rw[bF (ao _)]
theorem K9(b:Aw g)(c:(dp g x i)[i]?=some y)(j:Nat):(fW g x i (qQ (wo g (x::(dp g x i).take i)) y) j).length<=99:=by
 have a:=(jg b x (i+1)).le;rw[<-yu c]at a;refine aD ?_ a;unfold fW;rw[bw,bw];refine Nat.add_le_add_left ?_ _;rw[bF (ao _)];exact(List.Sublist.filter _ (List.take_sublist j _)).length_le
theorem Ni(a:(dp g x i)[i]?=some y):wo (wo g (x::(dp g x i).take i)) [y]=wo g (x::(dp g x (i+1)).take (i+1)):=by
 rw[Pt];have b:=(aX.1 a).1;rw[dp,a];simp only;rw[g8 (by omega),dz,a];rfl
end Go.Proofs.YtmmahddlcldmiaaGreat

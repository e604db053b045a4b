/- Proved here: plain facts and contracts. No condition but what each names. -/
import Derived.Test.YtmmahddlcldmiaaGreatR06
import Derived.Deep.DeepAppendWide
import Derived.MapKept
namespace Go.Proofs.YtmmahddlcldmiaaGreat
open Go.RowKit Go.Proofs.Tryz
open Go.RowKit Go.Maps
open Go.MapKept
set_option maxRecDepth 100000
set_option maxHeartbeats 4000000
theorem Kv{a β:Type}{l r:List a}(c:List.Sublist l r)(f:a->List β):List.Sublist (l.flatMap f) (r.flatMap f):=by
 induction c with
 | slnil=>exact List.Sublist.refl _
 | cons b _ ih=>
  simp only[bM];exact ih.trans (List.sublist_append_right _ _)
 | cons_cons b _ ih=>
  simp only[bM];exact List.Sublist.append (List.Sublist.refl _) ih
theorem NY{b:Type}{l r:List b}(c:List.Sublist l r)(f:b->Int)(d:∀a,0<=f a):(l.map f).sum<=(r.map f).sum:=by
 induction c with
 | slnil=>exact jy _
 | cons a _ ih=>
  simp only[aV,bO];have:=d a;omega
 | cons_cons a _ ih=>
  simp only[aV,bO];omega
theorem kp.erase{N:Nat}{ws:List Wd}{nm:List ap}{room:Int}{d:Wd}{vs:List Wd}{s:Tm (N+1)}{ms:List (Tm (N+1))}(l:kp (N+1) ws nm room (d::vs) (s::ms))(i:Nat):kp (N+1) ws nm room (d::vs.eraseIdx i) (s::ms.eraseIdx i):=by
 obtain⟨f,o,p,v,q,r,t,u⟩:=l;have m:vs.length=ms.length:=by simpa using f.1
 have n:List.Sublist (d::vs.eraseIdx i) (d::vs):=(List.eraseIdx_sublist vs i).cons_cons d;have j:List.Sublist (s::ms.eraseIdx i) (s::ms):=(List.eraseIdx_sublist ms i).cons_cons s;refine⟨⟨by simp[List.length_eraseIdx,m],λc g e b a=>?_⟩,(Kv n _).nodup o,λe a=>p e (j.subset a),?_,q,r,t,u⟩
 ·cases c with
  | zero=>
   simp only[dc,gU]at b a;exact f.2 0 g e (by simp[b]) (by simp[a])
  | succ c=>
   simp only[dt,List.getElem?_eraseIdx]at b a;by_cases h:c<i
   ·rw[if_pos h]at b a;exact f.2 (c+1) g e (by simpa using b) (by simpa using a)
   ·rw[if_neg h]at b a;exact f.2 (c+2) g e (by simpa using b) (by simpa using a)
 ·have:=NY j (sz (N+1)) λk=>(fl (N+1) k).1;omega
section
variable {base pb:Nat} {name:ap} {room:Int} {N:Nat} {s:Tm (N+1)} {ms:List (Tm (N+1))} {nk:Nat} {M:aO} {w:ag} {ws:List Wd} {nm:List ap} {sv:Wd} {vs:List Wd} {ma:au} {mc:Nat} {Mh:aO}
theorem cR.dropped(a:cR base pb name room (N+1) s ms [] nk M w ws nm sv vs ma mc Mh)(i:Nat){w1:ag}{g:Nat}(x:¬Mh g)(l:bB (λb=>b=g) w w1)(v:jV Mh ma (vs.eraseIdx i) mc w1)(u:M g):cR base pb name room (N+1) s (ms.eraseIdx i) [] nk M (w1.setCell ⟨pb,7,none⟩ (.slice ma (vs.eraseIdx i).length mc)) ws nm sv (vs.eraseIdx i) ma mc Mh/\b9 M w (w1.setCell ⟨pb,7,none⟩ (.slice ma (vs.eraseIdx i).length mc)):=by
 obtain⟨m,z⟩:=a.box0;have q:dX base (PL pb name sv (ae ma vs.length mc)) room ws nm Mh w1:=a.heap.kept (jM l) λb r _ c=>x (by rw[<-c];exact r);have k:=bC w1 pb 7 (.slice ma (vs.eraseIdx i).length mc);have j:=a.has;simp only[cC,dL]at j;refine⟨⟨q.turn k λB A mp t=>?_,?_,?_,?_,a.names,a.inM,a.mailM⟩,?_⟩
 ·unfold World.setCell;simp[bQ,t]
 ·rcases v with d|⟨h,y,n,o,e,f,p⟩
  ·exact aj d
  ·exact ak ⟨h,y,n,o,e,(k.block h (aI.1 f).1 λd=>e (by rw[d];exact m)).trans f,p⟩
 ·simp only[cC,dL];exact j.erase i
 ·simp[List.length_eraseIdx,a.len]
 ·refine b9.trans ((jM l).mono λb c=>?_) k λb _ c=>?_
  ·rw[c];exact u
  ·rw[c];exact a.inM pb m
theorem cR.delete(a:cR base pb name room (N+1) s ms [] nk M w ws nm sv vs ma mc Mh)(i:Nat)(H:i<ms.length)(G:ms.length<=1000):ao 78 #[ae ma vs.length mc,ab i,ab ((i:Int)+1)] w λe w'=>e=.returned (.slice ma (vs.eraseIdx i).length mc)/\Hid (bB M w w'/\ah w' pb 7 (ae ma vs.length mc)/\w'.frozen? ⟨pb,7,none⟩=false/\ cR base pb name room (N+1) s (ms.eraseIdx i) [] nk M (w'.setCell ⟨pb,7,none⟩ (.slice ma (vs.eraseIdx i).length mc)) ws nm sv (vs.eraseIdx i) ma mc Mh/\b9 M w (w'.setCell ⟨pb,7,none⟩ (.slice ma (vs.eraseIdx i).length mc))):=by
 have k:=a.len;obtain⟨E,m⟩:=a.box0;have f:(vs.eraseIdx i).length=vs.length-1:=by rw[List.length_eraseIdx,if_pos (by omega)]
 rcases a.mail with⟨_,e,_⟩|⟨g,n,u,rfl,d,x,y,z,A,B⟩
 ·rw[e]at k;simp at k;omega
 ·refine(zK g n mc i vs u w (by omega) x y (by omega) A B).mono ?_;rintro e w' ⟨rfl,o⟩;obtain⟨c,I,v,p,F,q⟩:=o;have j:=a.mailM _ rfl;have l:¬pb=g:=λe=>d (by rw[<-e];exact E);obtain⟨L,J,K,C,_⟩:=a.heap.box;obtain⟨_,_,_,r,t,_⟩:=PL.cells C;have D:=a.dropped i (w1:=w') (g:=g) d c (ak ⟨g,n,v,rfl,d,p,by omega,z,by omega,by rw[f];exact q⟩) j;refine⟨by rw[f],c.mono λb _ e=>by rw[e];exact j,(c.cell 7 m l).trans r,?_,D⟩;have h:=t 7;unfold World.frozen? at h ⊢;rw[c.block pb m l];exact h
end
def sr(n:Nat)(room:Int)(l:List (Bh (n+1)))(name:ap)(self next:Int)(s:Tc)(ms:List Tc):Int:=
 if mF n l≠0 then mF n l else if (decide (1<=self) && decide (self<=99) && decide (1<=next) && decide (next<=92))=false then 1 else if (nW room l name self next s ms).isSome then 0 else 4
def mB(c:Nat)(sends:List (Int×Tc))(spawns:List (Int×ap×Tc))(links:List Int)(sa:au)(sl sc:Nat)(pa:au)(pl pc:Nat)(ka:au)(kl kc:Nat)(P:aO)(w:ag):Prop:=
 ∃(f:Nat)(d:List (Int×Tm (f+1)))(e:List (Int×ap×Tm (f+1))),(d.length=sl/\e.length=pl/\links.length=kl)/\w.ownsRow c 177 5 (ae sa sl sc) sl (d.flatMap λa=>Ou a.1 a.2)/\w.ownsRow c 174 6 (ae pa pl pc) pl (e.flatMap λa=>Pv a.1 a.2.1 a.2.2)/\w.ownsRow c 3 1 (ae ka kl kc) kl (links.map λg=>ab g)/\
  d.map (λa=>(a.1,cn _ a.2))=sends/\e.map (λa=>(a.1,a.2.1,cn _ a.2.2))=spawns/\(∀a∈d,bG _ a.2=0/\In w.heap.size w _ a.2/\cv (λb=>c<=b/\P b) _ a.2)/\(∀a∈e,bG _ a.2.2=0/\In w.heap.size w _ a.2.2/\cv (λb=>c<=b/\P b) _ a.2.2)/\∀b,((Value.slice sa sl sc).ownBlock=some b\/(Value.slice pa pl pc).ownBlock=some b\/(Value.slice ka kl kc).ownBlock=some b)->c<=b/\P b
theorem mB.kept{f:Nat}{sends:List (Int×Tc)}{spawns:List (Int×ap×Tc)}{links:List Int}{sa:au}{sl sc:Nat}{pa:au}{pl pc:Nat}{ka:au}{kl kc:Nat}{P:aO}{w w':ag}(u:mB f sends spawns links sa sl sc pa pl pc ka kl kc P w){S:aO}(p:bB S w w')(n:∀q,f<=q->P q->q<w.heap.size->¬S q):mB f sends spawns links sa sl sc pa pl pc ka kl kc P w':=by
 obtain⟨t,H,I,v,y,z,A,B,C,g,h,i⟩:=u;have o:∀{e:Nat}{x:Tm e},In w.heap.size w e x->cv (λq=>f<=q/\P q) e x->In w'.heap.size w' e x:=λF G=>F.kee (p.mono (T:=λb=>S b/\b<w.heap.size) λb D q=>⟨q,D⟩) (G.mono λq c (a:S q/\q<w.heap.size)=>n q c.1 c.2 a.2 a.1);have l:∀{k:TypeId}{a e:Nat}{j:ar}{m:List ar},w.ownsRow f k a j e m->(∀q,j.ownBlock=some q->f<=q/\P q)->w'.ownsRow f k a j e m:=λ{k a e j m} r s=>bw r p λq c=>by
  obtain⟨J,E⟩:=eI r q c;exact n q (s q c).1 (s q c).2 (aI.1 E).1
 exact⟨t,H,I,v,l y λq c=>i q (aj c),l z λq c=>i q (ak (aj c)),l A λq c=>i q (ak (ak c)),B,C,λa d=>⟨(g a d).1,o (g a d).2.1 (g a d).2.2,(g a d).2.2⟩,λa d=>⟨(h a d).1,o (h a d).2.1 (h a d).2.2,(h a d).2.2⟩,i⟩
theorem mB.none(c:Nat)(P:aO)(w:ag):mB c [] [] [] none 0 0 none 0 0 none 0 0 P w:=
 ⟨0,[],[],⟨rfl,rfl,rfl⟩,eU _ _ _ _,eU _ _ _ _,eU _ _ _ _,rfl,rfl,λd b=>(by cases b),λd b=>(by cases b),λe a=>by
  rcases a with a|a|a<;>cases a⟩
def QI(r q:Nat)(name:ap)(room:Int)(s:Tc)(ms:List Tc)(o:Nat)(M:aO)(n:Nat)(l:List (Bh (n+1)))(self next:Int)(w:ag)(e:Ending)(w':ag):Prop:=
 (∃g,e=.returned (.tuple #[N1,ab g])/\Hid (g≠0/\g=sr n room l name self next (cn 13 s) (ms.map (cn 13))/\am w w'))\/
  ∃(a:Tc)(f:Int)(sa:au)(sl sc:Nat)(pa:au)(pl pc:Nat)(ka:au)(kl kc:Nat),e=.returned (.tuple #[PN a.1.1 a.1.2.1 a.1.2.2 a.2.1.1 a.2.2.length a.2.1.2 f sa sl sc pa pl pc ka kl kc,ab 0])/\Hid (∃b h d,sr n room l name self next (cn 13 s) (ms.map (cn 13))=0/\nW room l name self next (cn 13 s) (ms.map (cn 13))=some b/\f=b.fate/\cn 13 a=b.message/\bG 13 a=0/\In w'.heap.size w' 13 a/\cv (λc=>w.heap.size<=c/\c<d) 13 a/\b9 M w w'/\w.heap.size<d/\
   (∃i v p t u k m j,cR r q name room 13 i (ms.eraseIdx h) [] (o+402) (λc=>M c\/d<=c) w' v p t u k m j/\cn 13 i=b.state/\(ms.eraseIdx h).map (cn 13)=b.mail)/\mB (w.heap.size+1) b.sends b.spawns b.links sa sl sc pa pl pc ka kl kc (λ_=>True) w')
theorem Pa{n:Nat}(room self next:Int)(s m:Tc)(ms:List Tc)(c:Cl (n+1))(b:List Tc):fD room self next s m ms c b={fD room self next s s ms c b with message:=m}:=by
 unfold fD;cases qA self c.2.2 ⟨b,next,[],[],[],false⟩with
 | none=>rfl
 | some e=>
  cases d:tp e.b self (n+1) c.1.2.2 with
  | none=>simp only[d]
  | some t=>
   simp only[d];by_cases a:(ms.map (sz 13)).sum+sz 13 t<=room
   ·simp only[if_pos a]
   ·simp only[if_neg a]
theorem Hd{n:Nat}{room self next:Int}{s m:Tc}{ms:List Tc}{c:Cl (n+1)}{b:List Tc}(a:¬((fD room self next s m ms c b).fate=0\/(fD room self next s m ms c b).fate=1)):(fD room self next s m ms c b).sends=[]/\(fD room self next s m ms c b).spawns=[]/\(fD room self next s m ms c b).links=[]:=by
 unfold fD at a ⊢;cases hd:qA self c.2.2 ⟨b,next,[],[],[],false⟩with
 | none=>exact⟨rfl,rfl,rfl⟩
 | some d=>
  rw[hd]at a;cases f:tp d.b self (n+1) c.1.2.2 with
  | none=>simp[f]
  | some t=>
   simp only[f]at a ⊢;by_cases e:(ms.map (sz 13)).sum+sz 13 t<=room
   ·simp only[if_pos e]at a;cases hst:d.stops<;>simp[hst]at a
   ·simp[if_neg e]
theorem Hb{n:Nat}(room self next:Int)(s m:Tc)(ms:List Tc)(c:Cl (n+1))(b:List Tc):(fD room self next s m ms c b).mail=ms:=by
 unfold fD;cases qA self c.2.2 ⟨b,next,[],[],[],false⟩with
 | none=>rfl
 | some e=>
  cases d:tp e.b self (n+1) c.1.2.2 with
  | none=>simp only[d]
  | some t=>
   simp only[d];by_cases a:(ms.map (sz 13)).sum+sz 13 t<=room
   ·simp only[if_pos a]
   ·simp only[if_neg a]
theorem rj.keptS{D:Nat}{l:List (Tm D)}{B:List Tc}{d:Nat}{w w':ag}{b h:Nat}{S:aO}(a:rj D l B d w b h)(c:bB S w w')(g:∀q,d<=q->¬S q):rj D l B d w' b h:=by
 obtain⟨e,f⟩:=a.new;refine⟨a.bnd,a.tells,a.cap,⟨e,aW f c.size⟩,λn t m=>?_,λo=>?_⟩
 ·obtain⟨p,r,j⟩:=a.at' n t m;exact⟨p.kee c f (g b e),r.kee c (j.mono λs k=>g s k.1),j⟩
 ·have i:=a.free o;unfold World.frozen? at i ⊢;rw[c.block b f (g b e)];exact i
theorem xQ{n B:Nat}{w:ag}{p:au}{l:List (Bh (n+1))}(j:gG (n+1) B w p l)(name:ap):∃e d g,MU (n+1) (gD (n+1) name l)=ae e d g/\(gH name l).length=d/\qv B w 13 (fq (n+1)) (iz (n+1) B w) e (gH name l)/\(gH name l=[]\/∃b∈l,gH name l=b.2.2):=by
 have k:∀(l:List (Bh (n+1))) b,gD (n+1) name l=some b->b∈l:=by
  intro l
  induction l with
  | nil=>intro b a;cases a
  | cons q l ih=>
   intro b a;simp only[gD]at a;split at a
   ·obtain rfl:=az a;simp
   ·exact bT _ (ih b a)
 unfold gH;cases hb:gD (n+1) name l with
 | none=>exact⟨none,0,0,rfl,rfl,aj rfl,aj rfl⟩
 | some b=>
  have c:=k l b hb;refine⟨_,_,_,rfl,rfl,?_,ak ⟨b,c,rfl⟩⟩;rcases j with f|⟨s,o,f,r,h⟩
  ·rw[f]at c;cases c
  ·obtain⟨m,i⟩:=di c;exact((h m b i).2).2.2
theorem cR.step{an J n:Nat}{name:ap}{room:Int}{s:Tc}{ms:List Tc}{al:Nat}{M:aO}{w:ag}{ws:List Wd}{nm:List ap}{bu:Wd}{vs:List Wd}{ma:au}{aE:Nat}{Mh:aO}(S:cR an J name room 13 s ms [] al M w ws nm bu vs ma aE Mh)(l:List (Bh (n+1)))(Z:au)(L B:Nat)(a8:gG (n+1) B w Z l)(Q:B<=w.heap.size)(b7:l.length<=L)(bm:L<=maxLen)(bO:kO (n+1) l=true->(aC (n+6) (cg n l)).length<=2097152)(R:∀b,M b->b<w.heap.size)(bP:∀W,bB M w W->gG (n+1) B W Z l)(cC:al<=47000)(cx:ms.length<=999)(cy:an<=w.heap.size)(self next:Int):ao 45 #[aH J,ae Z l.length L,ab self,ab next] w (QI an J name room s ms al M n l self next w):=by
 obtain⟨cc,cd⟩:=S.box0 (N:=12);obtain⟨cM,cF,cI,bQ,_⟩:=S.heap.box;obtain⟨bD,_,_,cu,cw,_⟩:=PL.cells bQ;obtain⟨a0,bF,bg,bY,bW,bZ,bX⟩:=xQ a8 name;have cB:L<=9223372036854775807:=by unfold maxLen at bm;omega
 have bk:mF n l=0->(∀c∈gH name l,qt c)/\(gH name l).length<=6:=λq=>by
  obtain⟨_,bn⟩:=Gd q;rcases bX with d|⟨b,r,d⟩
  ·rw[d];exact⟨λc bS=>(by cases bS),aM _⟩
  ·rw[d];exact⟨(bn b r).2,(bn b r).1⟩
 have a6:∀(g:Nat)(t:Tc),(ms.map (cn 13))[g]?=some t->g<ms.length:=λg t aw=>by
  have:=(aY.1 aw).1;simpa using this
 refine(I1 J name Z l.length L self next (mF n l) a0 bF bg w (sP (gH name l) (cn 13 s) (ms.map (cn 13)) 0=none)
  (λg i c v F u=>∃j A E,am w u/\(1<=self/\self<=99/\1<=next/\next<=92)/\mF n l=0/\sP (gH name l) (cn 13 s) (ms.map (cn 13)) 0=some (g,c,j)/\c∈gH name l/\(ms.map (cn 13))[g]?=some (cn 13 i)/\bG 13 i=0/\In u.heap.size u 13 i/\cv (λa=>w.heap.size<a/\a≠v) 13 i/\rj (A+1) E j (w.heap.size+1) u v F)
  (λg i c v F u=>∃j A E aU aL aP aS aB aG ar,cR an J name room 13 s (ms.eraseIdx g) [] al M u aU aL aP aS aB aG ar/\b9 M w u/\(1<=self/\self<=99/\1<=next/\next<=92)/\mF n l=0/\sP (gH name l) (cn 13 s) (ms.map (cn 13)) 0=some (g,c,j)/\c∈gH name l/\(ms.map (cn 13))[g]?=some (cn 13 i)/\bG 13 i=0/\In u.heap.size u 13 i/\cv (λa=>w.heap.size<a/\a≠v) 13 i/\rj (A+1) E j (w.heap.size+1) u v F)
  (λg i c f sa sl sc pa pl pc ka kl kc P=>∃j aa,sP (gH name l) (cn 13 s) (ms.map (cn 13)) 0=some (g,c,j)/\(ms.map (cn 13))[g]?=some (cn 13 i)/\bG 13 i=0/\In P.heap.size P 13 i/\cv (λa=>w.heap.size<a/\a<aa) 13 i/\w.heap.size<aa/\b9 M w P/\f=(fD room self next (cn 13 s) (cn 13 s) ((ms.eraseIdx g).map (cn 13)) c j).fate/\
   (∃O aU aL aP aS aB aG ar,cR an J name room 13 O (ms.eraseIdx g) [] (al+402) (λa=>M a\/aa<=a) P aU aL aP aS aB aG ar/\cn 13 O=(fD room self next (cn 13 s) (cn 13 s) ((ms.eraseIdx g).map (cn 13)) c j).state)/\
   mB (w.heap.size+1) (fD room self next (cn 13 s) (cn 13 s) ((ms.eraseIdx g).map (cn 13)) c j).sends (fD room self next (cn 13 s) (cn 13 s) ((ms.eraseIdx g).map (cn 13)) c j).spawns (fD room self next (cn 13 s) (cn 13 s) ((ms.eraseIdx g).map (cn 13)) c j).links sa sl sc pa pl pc ka kl kc (λ_=>True) P)
  _ M cd R (S.inM J cc) rfl ?_ bD ?_ ?_ ?_ ?_).mono ?_
 ·intro W k;refine(L0 n l Z L b7 bm B W (a8.below (k.mono Q)) (aF Q k.size) bO).mono ?_;rintro d K ⟨i,rfl,x⟩;exact⟨_,_,_,_,_,_,rfl,x.1⟩
 ·intro W _ k;refine(vn (n+1) name l Z L l.length B W rfl (by omega) (aF Q k.size) (a8.below (k.mono Q))).mono ?_;rintro d K ⟨rfl,r⟩;exact⟨by rw[bY],r⟩
 ·intro W q y k;simp only[aK,cr]at y;obtain⟨a9,b8⟩:=bk q;have bj:=DI (S.later (N:=12) k) (gH name l) a0 bg B ((cQ (eK (n+1)) 13 (fq (n+1)) a0).below (k.mono Q) bZ) (aF Q k.size) a9 (by omega) (by omega) (by omega);rw[bW]at bj;refine bj.mono ?_;rintro d K (⟨bM,rfl,x⟩|⟨g,i,c,v,F,rfl,x⟩)
  ·exact aj ⟨rfl,x,bM⟩
  ·obtain⟨j,A,E,G,H,z,I,br,V,X,D⟩:=x.out;have cj:=k.size;have ai:=D.new;have a5:=a6 g _ z;exact ak ⟨g,i,c,v,F,rfl,br,by omega,ai.2,by omega,j,A,E,k.trans (br.mono cj),⟨y.1.1.1,y.1.1.2,y.1.2,y.2⟩,q,G,H,z,I,V,X.mono λa h=>⟨by omega,h.2⟩,D.mono (by omega)⟩
 ·rintro g i c v F u W ⟨j,A,E,a1,T,q,G,H,z,I,V,X,D⟩ k;have a2:=a1.trans (k.mono a1.size);have a5:=a6 g _ z;obtain⟨cN,cG,cJ,bR,_⟩:=(S.later (N:=12) a2).heap.box;obtain⟨_,_,_,bE,bH,_⟩:=PL.cells bR;refine⟨ma,vs.length,aE,⟨bE,bH 7⟩,λbC ay=>?_⟩;have bh:=a2.trans (ay.mono a2.size);refine((S.later (N:=12) bh).delete (N:=12) g a5 (by omega)).mono ?_;rintro d K ⟨rfl,x⟩;obtain⟨cl,cm,co,cp,bc⟩:=x.out;have cf:=a1.size;refine⟨ma,_,aE,rfl,cl,cm,co,j,A,E,ws,nm,bu,_,ma,aE,Mh,cp,(bq bh M).trans bc λ_ _ d=>d,T,q,G,H,z,I,?_,X,?_⟩
  ·exact(((V.below k).mono k.size |>.below ay).mono ay.size).kee (iH bc) (X.mono λa h e=>by have:=R a e;omega)
  ·exact((D.keptS (aR k (λ_=>False)) (λ_ _ d=>d)).keptS (aR ay (λ_=>False)) (λ_ _ d=>d)).keptS (iH bc) λa h e=>by have:=R a e;omega
 ·rintro g i c v F u W ad ⟨j,A,E,aU,aL,aP,aS,aB,aG,ar,cb,a7,T,q,G,H,z,I,V,X,D⟩ k cz bi;obtain⟨a9,b8⟩:=bk q;have Y:=D.keptS (aR k (λ_=>False)) (λ_ _ d=>d);have ai:=D.new;have cf:=a7.size;have ci:=k.size;have a5:=a6 g _ z;have cA:ad<W.heap.size:=(aI.1 bi).1;have b1:eJ (w.heap.size+1) ad self n A 0 next ⟨j,next,[],[],[],false⟩ W E v F [] [] (ae none 0 0) (ae none 0 0) (ae none 0 0):=by
   refine⟨bi,⟨by omega,by omega,ai.1,Y.new.2,by omega⟩,Y.bnd,Y.tells,λU e p=>⟨(Y.at' U e p).1,(Y.at' U e p).2.1,(In.offB (D.at' U e p).2.2 (D.at' U e p).2.1).mono λa h=>⟨h.1.1,λm=>?_⟩⟩,Y.free,eU _ _ _ _,eU _ _ _ _,eU _ _ _ _,rfl,rfl,λe p=>(by cases p),λe p=>(by cases p),⟨⟨λd=>(by cases d),λd=>(by cases d),λd=>(by cases d)⟩,⟨λd=>(by cases d),λd=>(by cases d),λd=>(by cases d)⟩,λa=>⟨λd=>(by cases d),λd=>(by cases d)⟩⟩,⟨aM _,aM _,aM _,by simp,T.2.2.1,T.2.2.2⟩⟩;rcases m with m|m|m|m|m
   ·have:=h.2;omega
   ·exact h.1.2 m
   ·cases m
   ·cases m
   ·cases m
  have b6:bB M w W:=(iH a7).trans (aR k (λ_=>False)) λ_ _ d=>d.elim;have bV:iz (n+1) B W c:=by
   obtain⟨_,_,_,_,_,b0,_⟩:=xQ (bP W b6) name;rcases b0 with d|⟨a,o,d,h,bU⟩
   ·rw[d]at H;cases H
   ·obtain⟨U,b5⟩:=di H;exact(bU U c b5).2
  have bT:iz (n+1) (w.heap.size+1) W c:=(eK (n+1)).mono (by omega) bV;have b2:(ms.eraseIdx g).length<=999:=by
   have:=List.length_eraseIdx_le ms g;omega
  have a4:=DT (b:=j) (cb.later (N:=12) k) b1 rfl c bT (a9 c H) ⟨T.1,T.2.1⟩ (λa e=>by have:=R a e;omega) (by omega) (by omega) b2;have b3:ao 79 #[aH J,QM c,aH ad] W _:=a4;refine b3.mono ?_;rintro d K ⟨f,rfl,aX,aZ,⟨O,aV,aN,aQ,aT,aD,aJ,av,be,bf⟩,bA⟩;have a3:∀a,lX ad v (ae none 0 0) (ae none 0 0) (ae none 0 0) a->a=ad\/a=v:=λa m=>by
   rcases m with m|m|m|m|m
   ·exact aj m
   ·exact ak m
   ·cases m
   ·cases m
   ·cases m
  have af:b9 M w K:=(a7.trans (bq k M) λ_ _ d=>d).trans (jM aZ) λa h e=>by
   rcases e with e|e
   ·exact e
   ·rcases a3 a e with e|e<;>omega
  have aq:=In.offB X V
  have aW:In K.heap.size K 13 i:=((V.below k).mono ci).kee aZ (aq.mono λa h e=>by
   rcases e with e|e
   ·have:=R a e;omega
   ·rcases a3 a e with e|e
    ·have:=h.2;omega
    ·exact h.1.2 e)
  have bv:cv (λa=>w.heap.size<a/\a<W.heap.size) 13 i:=aq.mono λa h=>⟨h.1.1,by have:=h.2;omega⟩;refine⟨f,rfl,aZ.mono λa _ e=>?_,λax=>?_,λax=>?_⟩
  ·rcases e with e|e
   ·exact aj e
   ·exact ak (a3 a e)
  ·obtain⟨bI,cE,ct,cs,bs,bt,cL,cK,cH,C,bw,bx,bd,_⟩:=bA ax;have bp:=C.sRow;have bo:=C.pRow;have bl:=C.lRow;have b4:=C.high;have bb:=C.sIn;have ba:=C.pIn;obtain⟨sa,sc,rfl⟩:=ng bp;obtain⟨pa,pc,rfl⟩:=ng bo;obtain⟨ka,kc,rfl⟩:=ng bl;refine⟨_,_,_,_,sa,bs.length,sc,pa,bt.length,pc,ka,bI.links.length,kc,C.box,j,W.heap.size,G,z,I,aW,bv,by omega,af,aX,⟨O,aV,aN,aQ,aT,aD,aJ,av,be,bf⟩,?_⟩;refine⟨A+1+n,bs,bt,⟨rfl,rfl,by rw[<-bd]⟩,bp,bo,by rw[<-bd];exact bl,C.sIs.trans bw,C.pIs.trans bx,λe p=>⟨(bb e p).1,(bb e p).2.1,(bb e p).2.2.mono λa h=>⟨h.1,trivial⟩⟩,λe p=>⟨(ba e p).1,(ba e p).2.1,(ba e p).2.2.mono λa h=>⟨h.1,trivial⟩⟩,λa h=>⟨b4 a (ak (ak h)),trivial⟩⟩
  ·rw[aX]at ax;obtain⟨bJ,bK,bL⟩:=Hd ax;refine⟨j,W.heap.size,G,z,I,aW,bv,by omega,af,aX,⟨O,aV,aN,aQ,aT,aD,aJ,av,be,bf⟩,?_⟩;rw[bJ,bK,bL];exact mB.none _ _ _
 ·rintro d K (⟨cq,rfl,x⟩|⟨g,i,c,f,sa,sl,sc,pa,pl,pc,ka,kl,kc,rfl,x⟩)
  ·obtain⟨r,ck⟩:=x.out;refine aj ⟨cq,rfl,?_⟩;rcases ck with⟨rfl,aw⟩|⟨rfl,q,y⟩|⟨rfl,q,y,ai⟩
   ·exact⟨aw,by unfold sr;rw[if_pos aw],r⟩
   ·exact⟨by decide,by unfold sr;rw[if_neg (λa=>a q),if_pos y],r⟩
   ·refine⟨by decide,?_,r⟩;have aA:nW room l name self next (cn 13 s) (ms.map (cn 13))=none:=by
     unfold nW;rw[ai];rfl
    unfold sr;rw[if_neg (λa=>a q),if_neg (by rw[y];decide),aA];rfl
  ·obtain⟨q,y,P,bC,⟨j,aa,G,z,I,aW,aq,bN,af,a4,⟨O,aV,aN,aQ,aT,aD,aJ,av,P1,bz⟩,ce⟩,ah,az⟩:=x;have cD:=af.size;have ch:=ah.size;have ca:(ms.map (cn 13)).eraseIdx g=(ms.eraseIdx g).map (cn 13):=by simp[tu,List.map_take,List.map_drop]
   have aA:nW room l name self next (cn 13 s) (ms.map (cn 13))=some {fD room self next (cn 13 s) (cn 13 s) ((ms.eraseIdx g).map (cn 13)) c j with message:=cn 13 i}:=by
    unfold nW;rw[G];simp only[dP];rw[z,ca,nB,Pa]
   refine ak ⟨i,f,sa,sl,sc,pa,pl,pc,ka,kl,kc,rfl,_,g,aa,?_,aA,a4,rfl,I,((aW.below ah).mono ch).kee az (aq.mono λa h d=>by omega),aq.mono λa h=>⟨by omega,h.2⟩,(af.trans (bq ah M) λ_ _ d=>d).trans (jM az) λb r d=>by omega,bN,⟨O,aV,aN,aQ,aT,aD,aJ,av,(P1.later (N:=12) ah).kept (N:=12) (jM az) λb r _ d=>?_,bz,(Hb ..).symm⟩,(ce.kept (aR ah (λ_=>False)) λ_ _ _ _ d=>d).kept az λa h _ _ d=>by omega⟩
   ·unfold sr;rw[if_neg (λa=>a q),if_neg (by rw[y];decide),aA];rfl
   ·rcases r with r|r
    ·have:=R b r;omega
    ·omega
theorem GP(n:Nat)(x:Tm n):bG n x=0\/bG n x=2\/bG n x=5:=by
 rw[<-gM];unfold xD;split
 ·split
  ·exact ak (aj rfl)
  ·exact aj rfl
 ·exact ak (ak rfl)
section
variable {base pb:Nat} {name:ap} {room:Int} {N n:Nat} {s:Tm (N+1)} {ms:List (Tm (N+1))} {nk:Nat} {M:aO} {w:ag} {ws:List Wd} {nm:List ap} {sv:Wd} {vs:List Wd} {ma:au} {mc:Nat} {Mh:aO}
theorem cR.putBad(k:cR base pb name room (N+1) s ms [] nk M w ws nm sv vs ma mc Mh)(x:Tm (n+1))(B:In w.heap.size w (n+1) x)(z:cv (λb=>¬M b) (n+1) x)(u:(aC (n+1) x).length<=2097152)(G:nk<=49000)(F:base<=w.heap.size)(o:bG (n+1) x≠0):ao 123 #[aH pb,dB (n+1) x] w λe w'=>e=.returned (.tuple #[.agg #[ab 0,ab 0],ab (bG (n+1) x)])/\am w w':=by
 obtain⟨_,_,_,I,J,C,D,_⟩:=k.front;have H:=k.names;have l:jZ (n+1) x room ws=bG (n+1) x:=by
  unfold jZ;rw[if_pos o]
 have t:jZ (n+1) x room ws≠6:=by
  rw[l];rcases GP (n+1) x with e|e|e<;>rw[e]<;>decide
 have p:∀{h:Wd}{c:Int}{f i:ag},zn (n+1) x base (PL pb name sv (ae ma vs.length mc)) room ws nm Mh h c f i->c≠0:=λg=>by
  rw[g.1,l];exact o
 refine(Cs pb x.1.1 x.1.2.1 x.1.2.2 x.2.1.1 x.2.2.length x.2.1.2 w (λh c f i=>zn (n+1) x base (PL pb name sv (ae ma vs.length mc)) room ws nm Mh h c f i) (λ_ _=>False) (λ_ _ _ _=>False) ?_ ?_ ?_).mono ?_
 ·intro f d;have m:=d.size;have q:=k.later d;refine(vC (n+1) x base (PL pb name sv (ae ma vs.length mc)) room ws nm Mh f q.heap ((B.below d).mono m) (z.mono λb d g=>d (k.inM b g)) u (by omega) C D (by omega) (by omega)).mono ?_;intro e i g;obtain⟨h,c,rfl,a⟩:=Am g;refine⟨h,c,rfl,?_,a⟩;have j:=(a.2.1 (p a)).2;exact⟨j.size,λb _ _ r=>j.block b r⟩
 ·intro K f i L _ a _ _;exact absurd a.1.symm t
 ·intro _ _ _ a;exact a.elim
 ·rintro e w' ⟨h,c,rfl,⟨_,f,i,d,a,y⟩|⟨_,_,_,_,_,_,_,_,_,_,_,a,_⟩⟩
  ·obtain⟨A,j⟩:=a.2.1 (p a);have m:=d.size;have v:c=bG (n+1) x:=a.1.trans l;refine⟨by rw[v,A],(d.trans (j.mono m)).trans ((iH y).below (by have:=j.size;omega) λb E g=>by omega)⟩
  ·exact a.elim
theorem cR.deliverBad(f:cR base pb name room (N+1) s ms [] nk M w ws nm sv vs ma mc Mh)(x:Tm (n+1))(v:In w.heap.size w (n+1) x)(t:cv (λb=>¬M b) (n+1) x)(p:(aC (n+1) x).length<=2097152)(r:nk<=49000)(q:base<=w.heap.size)(k:bG (n+1) x≠0):ao 85 #[aH pb,dB (n+1) x] w λe w'=>e=.returned (ab (if 20<=ms.length then 2 else bG (n+1) x))/\am w w':=by
 have z:=f.len;obtain⟨A,u⟩:=f.box0;refine(rJ pb x.1.1 x.1.2.1 x.1.2.2 x.2.1.1 x.2.2.length x.2.1.2 vs.length mc ma w (λ_ l h d=>l=bG (n+1) x/\am h d) (λ_ _ _ _ _ _=>False) u ?_ ?_ ?_).mono ?_
 ·intro d a;obtain⟨D,B,C,i,_⟩:=(f.later a).heap.box;exact(PL.cells i).2.2.2.1
 ·intro h a;have g:=a.size;refine((f.later a).putBad x ((v.below a).mono g) t p r (aF q g) k).mono ?_;rintro e d ⟨rfl,c⟩;exact⟨(0,0),_,rfl,⟨c.size,λb _ _ j=>c.block b j⟩,rfl,c⟩
 ·rintro y h d ⟨e,_⟩;exact absurd e.symm k
 ·rintro e w' ⟨i,m⟩;by_cases o:20<=vs.length
  ·obtain⟨rfl,a⟩:=i o;exact⟨by rw[if_pos (by omega)],a⟩
  ·obtain⟨y,l,h,d,rfl,a,⟨rfl,c⟩,j,_⟩:=m (by omega);have g:=a.size;exact⟨by rw[if_neg (by omega)],(a.trans (c.mono g)).trans ((j k).mono (by have:=c.size;omega))⟩
end
def kB(n:Nat)(x:Tm n)(room:Int)(s:Tc)(ms:List Tc):Int:=if 20<=ms.length then 2 else if bG n x≠0 then bG n x else if aT n x=false then 5 else if ((s::ms).map (sz 13)).sum+sz n x<=room then 0 else 6
theorem FE{l:List Tc}(a:∀y∈l,bG 13 y=0):((l.map (cn 13)).map (sz 13)).sum=(l.map (sz 13)).sum:=by
 rw[gR];congr 1;exact jC λy b=>FF (a y b)
section
variable {base pb:Nat} {name:ap} {room:Int} {n:Nat} {s:Tc} {ms:List Tc} {nk:Nat} {M:aO} {w:ag} {ws:List Wd} {nm:List ap} {sv:Wd} {vs:List Wd} {ma:au} {mc:Nat} {Mh:aO}
theorem cR.deliverC(f:cR base pb name room 13 s ms [] nk M w ws nm sv vs ma mc Mh)(x:Tm (n+1))(C:In w.heap.size w (n+1) x)(B:cv (λb=>¬M b) (n+1) x)(J:(aC (n+1) x).length<=2097152)(I:∀b,M b->b<w.heap.size)(A:nk<=49000)(G:ms.length<=999)(v:base<=w.heap.size):ao 85 #[aH pb,dB (n+1) x] w λe w'=>e=.returned (ab (kB (n+1) x room (cn 13 s) (ms.map (cn 13))))/\Hid (∃D q m o p k l h,cR base pb name room 13 s D [] (nk+201) (λb=>M b\/w.heap.size<=b) w' q m o p k l h/\b9 M w w'/\D.map (cn 13)=if kB (n+1) x room (cn 13 s) (ms.map (cn 13))=0 then ms.map (cn 13)++ [cn (n+1) x]else ms.map (cn 13)):=by
 have L:∀r∈s::ms,bG 13 r=0:=λr Q=>((f.front (N:=12)).2.2.1 r Q).1;have O:((cn 13 s::ms.map (cn 13)).map (sz 13)).sum=((s::ms).map (sz 13)).sum:=FE L;by_cases a:bG (n+1) x=0
 ·have j:aJ ⟨n+1,x⟩:=aU.2 (bJ.1 a).1;have i:fP (n+1) x<13:=by have:=(bJ.1 a).2.1;omega
  have g:=jN 13 (n+1) x j i;have y:bG 13 (aZ 13 (n+1) x)=0:=(bZ g).trans a;have z:=f.deliver (N:=12) (aZ 13 (n+1) x) (sZ 13 (n+1) x _ _ j i C) (uE 13 (n+1) x _ j i B) (fw y) I A G v;have d:zM 13 (aZ 13 (n+1) x) room s ms=kB (n+1) x room (cn 13 s) (ms.map (cn 13)):=by
   unfold zM kB tb;rw[O,dN,y,a,cO _ _ _ _ g,mm _ _ _ _ g]
  have P:dB (12+1) (aZ (12+1) (n+1) x)=dB (n+1) x:=Ab 12 n x;rw[P]at z;refine z.mono ?_;rintro e w' ⟨rfl,E⟩;obtain⟨q,m,o,p,k,l,h,F,K⟩:=E;refine⟨congrArg (λS=>Ending.returned (ab S)) d,_,q,m,o,p,k,l,h,F,K,?_⟩;have H:zM (12+1) (aZ (12+1) (n+1) x) room s ms=kB (n+1) x room (cn 13 s) (ms.map (cn 13)):=d;rw[H];by_cases c:kB (n+1) x room (cn 13 s) (ms.map (cn 13))=0
  ·rw[if_pos c,if_pos c,gQ];congr 1;exact congrArg (λt=> [t]) (iF g)
  ·rw[if_neg c,if_neg c]
 ·have d:kB (n+1) x room (cn 13 s) (ms.map (cn 13))=if 20<=ms.length then 2 else bG (n+1) x:=by
    unfold kB;rw[dN,if_pos a]
  have c:kB (n+1) x room (cn 13 s) (ms.map (cn 13))≠0:=by
   rw[d];split
   ·decide
   ·exact a
  refine(f.deliverBad (N:=12) x C B J A v a).mono ?_;rintro e w' ⟨rfl,u⟩;refine⟨by rw[d],ms,ws,nm,sv,vs,ma,mc,Mh,(f.later (N:=12) u).mono (N:=12) (λb R=>aj R) (by omega),bq u M,?_⟩;rw[if_neg c]
end
theorem K5{n:Nat}{x:Tm (n+1)}(room:Int)(name:ap)(b:bG (n+1) x=0):gw 13 (aZ 13 (n+1) x) room name=gw (n+1) x room name:=by
 have d:aJ ⟨n+1,x⟩:=aU.2 (bJ.1 b).1;have c:fP (n+1) x<13:=by have:=(bJ.1 b).2.1;omega
 have a:=jN 13 (n+1) x d c;unfold gw jZ;rw[bZ a,cO _ _ _ _ a,mm _ _ _ _ a]
theorem Qc(n:Nat)(x:Tm (n+1))(room:Int)(name:ap)(w:ag)(m:name.size<=9223372036854775807)(o:In w.heap.size w (n+1) x)(q:(aC (n+1) x).length<=2097152):ao 42 #[af name,dB (n+1) x,ab room] w λe w'=>(gw (n+1) x room name≠0->e=.returned (.tuple #[.pointer none,ab (gw (n+1) x room name)])/\am w w')/\ (gw (n+1) x room name=0->∃d,e=.returned (.tuple #[aH d,ab 0])/\Hid (w.heap.size<=d/\am w w'/\bG (n+1) x=0/\∃s ws nm h Mh,cn 13 s=cn (n+1) x/\cR w.heap.size d name room 13 s [] [] 201 (λb=>w.heap.size<=b/\b<w'.heap.size) w' ws nm h [] none 0 Mh)):=by
 by_cases c:bG (n+1) x=0
 ·have k:aJ ⟨n+1,x⟩:=aU.2 (bJ.1 c).1;have j:fP (n+1) x<13:=by have:=(bJ.1 c).2.1;omega
  have l:=jN 13 (n+1) x k j;have r:bG 13 (aZ 13 (n+1) x)=0:=(bZ l).trans c;have i:=Cp 12 (aZ 13 (n+1) x) room name w m (sZ 13 (n+1) x _ _ k j o) (fw r);have u:dB (12+1) (aZ (12+1) (n+1) x)=dB (n+1) x:=Ab 12 n x;rw[u]at i;refine i.mono ?_;rintro e w' ⟨f,g⟩;have t:gw (12+1) (aZ (12+1) (n+1) x) room name=gw (n+1) x room name:=K5 room name c;rw[t]at f g;refine⟨f,λa=>?_⟩;obtain⟨d,rfl,p⟩:=g a;obtain⟨v,y,ws,nm,h,Mh,z⟩:=p;exact⟨d,rfl,v,y,c,_,ws,nm,h,Mh,iF l,z⟩
 ·refine(Cp n x room name w m o q).mono ?_;rintro e w' ⟨f,g⟩;refine⟨f,λa=>?_⟩;unfold gw at a;split at a
  ·cases a
  ·split at a
   ·cases a
   ·unfold jZ at a;rw[if_pos c]at a;exact absurd a c
def P1(e l:Nat)(name:ap)(room:Int)(cs:Tc)(g:List Tc)(k:Nat)(M:aO)(w:ag):Prop:=
 ∃a d c o j m n h i f,cR a l name room 13 d c [] k M w o j m n h i f/\(cn 13 d=cs/\c.map (cn 13)=g)/\a<=w.heap.size/\∀b,M b->e<=b/\b<w.heap.size
section
variable {B0 pb:Nat} {name:ap} {room:Int} {cs:Tc} {cms:List Tc} {k:Nat} {M:aO} {w:ag}
theorem P1.later(g:P1 B0 pb name room cs cms k M w){w1:ag}(c:am w w1):P1 B0 pb name room cs cms k M w1:=by
 obtain⟨f,o,m,r,n,p,q,j,l,e,h,i,s,a⟩:=g;have t:=c.size;exact⟨f,o,m,r,n,p,q,j,l,e,h.later (N:=12) c,i,by omega,λb d=>⟨(a b d).1,by have:=(a b d).2;omega⟩⟩
theorem P1.kept(g:P1 B0 pb name room cs cms k M w){S:aO}{w1:ag}(d:b9 S w w1)(j:∀b,M b->¬S b):P1 B0 pb name room cs cms k M w1:=by
 obtain⟨f,p,n,s,o,q,r,l,m,e,h,i,t,c⟩:=g;have u:=d.size;exact⟨f,p,n,s,o,q,r,l,m,e,h.kept (N:=12) d λb a _=>j b a,i,by omega,λb a=>⟨(c b a).1,by have:=(c b a).2;omega⟩⟩
def mM(M:aO)(w w':ag)(b:Nat):Prop:=(M b\/w.heap.size<=b)/\b<w'.heap.size
theorem P1.ok(h:P1 B0 pb name room cs cms k M w):bG 13 cs=0/\aT 13 cs=true/\(∀m∈cms,bG 13 m=0/\aT 13 m=true)/\((cs::cms).map (sz 13)).sum<=room:=by
 obtain⟨q,b,f,z,v,x,y,t,u,p,i,⟨rfl,rfl⟩,r,s⟩:=h;obtain⟨_,_,e,n,o,_⟩:=i.front (N:=12);have j:∀a∈b::f,bG 13 a=0:=λa d=>(e a d).1;have c:=e b (by simp);refine⟨nK c.1,(kI c.1).trans c.2,λm l=>?_,?_⟩
 ·obtain⟨a,d,rfl⟩:=cm.1 l;have:=e a (bT _ d);exact⟨nK this.1,(kI this.1).trans this.2⟩
 ·have g:((cn 13 b::f.map (cn 13)).map (sz 13)).sum=((b::f).map (sz 13)).sum:=FE j;rw[g];exact Int.le_trans n o
theorem P1.deliver(j:P1 B0 pb name room cs cms k M w){n:Nat}(x:Tm (n+1))(t:In w.heap.size w (n+1) x)(s:cv (λb=>¬M b) (n+1) x)(q:(aC (n+1) x).length<=2097152)(r:k<=49000)(m:cms.length<=999)(G:B0<=w.heap.size):ao 85 #[aH pb,dB (n+1) x] w λe w'=>e=.returned (ab (kB (n+1) x room cs cms))/\Hid (b9 M w w'/\P1 B0 pb name room cs (if kB (n+1) x room cs cms=0 then cms++ [cn (n+1) x]else cms) (k+201) (mM M w w') w'):=by
 obtain⟨i,A,J,P,K,L,O,H,I,E,l,⟨rfl,rfl⟩,c,d⟩:=j;refine(l.deliverC x t s q (λb a=>(d b a).2) r (by simpa using m) c).mono ?_;rintro e w' ⟨rfl,h⟩;obtain⟨y,D,z,B,C,u,v,F,o,f,p⟩:=h;refine⟨rfl,f,i,A,y,D,z,B,C,u,v,_,o.inside (N:=12),⟨rfl,p⟩,aF c f.size,λb a=>⟨?_,a.2⟩⟩;rcases a.1 with g|g
 ·exact(d b g).1
 ·omega
theorem P1.state(d:P1 B0 pb name room cs cms k M w)(g:k<=50000):ao 34 #[aH pb] w λe w'=>∃y:Tc,e=.returned (dB 13 y)/\Hid (am w w'/\In w'.heap.size w' 13 y/\cv (λq=>w.heap.size<=q) 13 y/\bG 13 y=0/\cn 13 y=cs):=by
 obtain⟨l,h,r,v,s,t,u,o,p,j,a,⟨rfl,rfl⟩,m,n⟩:=d;have f:=(a.front (N:=12)).2.2.1 h (by simp);refine(a.state (N:=12) g).mono ?_;rintro e w' ⟨y,rfl,c⟩;obtain⟨y1,y2,i,b⟩:=c;exact⟨y,rfl,y1,y2,i,(bZ b).trans f.1,iF b⟩
end
section
variable {B0 pb:Nat} {name:ap} {room:Int} {cs:Tc} {cms:List Tc} {k:Nat} {M:aO} {w:ag}
theorem P1.mono(f:P1 B0 pb name room cs cms k M w){M':aO}{c a:Nat}(j:∀b,M b->M' b)(m:k<=c)(l:∀b,M' b->a<=b/\b<w.heap.size):P1 a pb name room cs cms c M' w:=by
 obtain⟨e,r,p,u,q,s,t,n,o,d,g,h,i,_⟩:=f;exact⟨e,r,p,u,q,s,t,n,o,d,g.mono (N:=12) j m,h,i,l⟩
def QJ(B0 pb:Nat)(name:ap)(room:Int)(cs:Tc)(cms:List Tc)(k:Nat)(M:aO)(n:Nat)(l:List (Bh (n+1)))(self next:Int)(w:ag)(e:Ending)(w':ag):Prop:=
 (∃g,e=.returned (.tuple #[N1,ab g])/\Hid (g≠0/\g=sr n room l name self next cs cms/\am w w'))\/
  ∃(a:Tc)(f:Int)(sa:au)(sl sc:Nat)(pa:au)(pl pc:Nat)(ka:au)(kl kc:Nat),e=.returned (.tuple #[PN a.1.1 a.1.2.1 a.1.2.2 a.2.1.1 a.2.2.length a.2.1.2 f sa sl sc pa pl pc ka kl kc,ab 0])/\Hid (∃c d,sr n room l name self next cs cms=0/\nW room l name self next cs cms=some c/\f=c.fate/\cn 13 a=c.message/\bG 13 a=0/\In w'.heap.size w' 13 a/\cv (λh=>w.heap.size<=h/\h<d) 13 a/\b9 M w w'/\w.heap.size<d/\
   P1 B0 pb name room c.state c.mail (k+402) (λb=>(M b\/d<=b)/\b<w'.heap.size) w'/\c.mail.length<=cms.length/\mB (w.heap.size+1) c.sends c.spawns c.links sa sl sc pa pl pc ka kl kc (λ_=>True) w')
theorem P1.step(D:P1 B0 pb name room cs cms k M w){n:Nat}(l:List (Bh (n+1)))(a:au)(c B:Nat)(K:gG (n+1) B w a l)(G:B<=w.heap.size)(L:l.length<=c)(O:c<=maxLen)(H:kO (n+1) l=true->(aC (n+6) (cg n l)).length<=2097152)(I:∀W,bB M w W->gG (n+1) B W a l)(ai:B0<=w.heap.size)(J:k<=47000)(F:cms.length<=999)(self next:Int):ao 45 #[aH pb,ae a l.length c,ab self,ab next] w (QJ B0 pb name room cs cms k M n l self next w):=by
 obtain⟨C,ap,S,aw,an,aq,ar,al,am,af,E,⟨rfl,rfl⟩,i,j⟩:=D;refine(E.step l a c B K G L O H (λb d=>(j b d).2) I J (by simpa using F) i self next).mono ?_;rintro ah av (⟨Y,rfl,e⟩|⟨ad,f,sa,sl,sc,pa,pl,pc,ka,kl,kc,rfl,e⟩)
 ·exact aj ⟨Y,rfl,e⟩
 ·obtain⟨X,P,o,p,r,s,t,u,v,x,g,y,⟨U,aa,T,V,Z,Q,R,ag,z,A,h⟩,q⟩:=e;refine ak ⟨ad,f,sa,sl,sc,pa,pl,pc,ka,kl,kc,rfl,X,o,p,r,s,t,u,v,x,g,y,⟨C,U,_,aa,T,V,Z,Q,R,_,z.inside (N:=12),⟨A,h⟩,aF i g.size,λb d=>⟨?_,d.2⟩⟩,?_,q⟩
  ·rcases d.1 with m|m
   ·exact(j b m).1
   ·omega
  ·rw[<-h,dN,dN];exact List.length_eraseIdx_le S P
end
theorem P1.new(n:Nat)(x:Tm (n+1))(room:Int)(name:ap)(w:ag)(m:name.size<=9223372036854775807)(o:In w.heap.size w (n+1) x)(k:(aC (n+1) x).length<=2097152):ao 42 #[af name,dB (n+1) x,ab room] w λe w'=>∃p:au,e=.returned (.tuple #[.pointer p,ab (gw (n+1) x room name)])/\Hid (am w w'/\(gw (n+1) x room name≠0->p=none)/\(gw (n+1) x room name=0->∃a,p=some ⟨a,0,none⟩/\w.heap.size<=a/\bG (n+1) x=0/\P1 w.heap.size a name room (cn (n+1) x) [] 201 (λb=>w.heap.size<=b/\b<w'.heap.size) w')):=by
 refine(Qc n x room name w m o k).mono ?_;rintro e w' ⟨i,j⟩;by_cases c:gw (n+1) x room name=0
 ·obtain⟨a,rfl,g⟩:=j c;obtain⟨q,f,r,v,z,u,y,h,s,t⟩:=g;exact⟨some ⟨a,0,none⟩,by rw[c],f,λd=>absurd c d,λ_=>⟨a,rfl,q,r,w.heap.size,v,[],z,u,y,[],none,0,h,t,⟨s,rfl⟩,f.size,λb d=>d⟩⟩
 ·obtain⟨rfl,l⟩:=i c;exact⟨none,rfl,l,λ_=>rfl,λd=>absurd d c⟩
structure BL where
 b:Nat
 o:Nat
 c:Array ar
 t:TypeId
def t8(p:BL)(a:Option Nat)(w:ag):Prop:=(p.o<p.c.size/\p.t≠31)/\w.heap[p.b]?=some (.cells (p.c.setIfInBounds p.o (.map a)) p.t (0,0))
theorem t8.cell{p:BL}{c:Option Nat}{w:ag}(a:t8 p c w):ah w p.b (p.o) (.map c)/\∀j,w.frozen? ⟨p.b,j,none⟩=false:=by
 refine⟨?_,λj=>by simp[World.frozen?,a.2]⟩;simp[World.cell?,a.2,a.1.1]
theorem t8.lt{p:BL}{c:Option Nat}{w:ag}(a:t8 p c w):p.b<w.heap.size:=(aI.1 a.2).1
theorem t8.kept{p:BL}{c:Option Nat}{w w':ag}(a:t8 p c w)(d:w'.heap[p.b]?=w.heap[p.b]?):t8 p c w':=⟨a.1,d.trans a.2⟩
theorem t8.set{p:BL}{c mo':Option Nat}{w:ag}(a:t8 p c w):t8 p mo' (w.setCell ⟨p.b,p.o,none⟩ (.map mo')):=by
 refine⟨a.1,?_⟩;simp[World.setCell,bQ,a.2]
def iA(base:Nat)(d:BL)(a:Option Nat)(n N:Nat)(f:Int×Int->List (Tm N))(sl:Int×Int->ar)(w:ag):Prop:=
 base<=d.b/\t8 d a w/\((a=none/\f=(λ_=> [])/\sl=λ_=>lU)\/∃c,a=some c/\GM base c n N f sl w)
def sD(c:BL)(a:Option Nat)(sl:Int×Int->ar)(b:Nat):Prop:=b=c.b\/a=some b\/∃k,I2 k/\(sl k).ownBlock=some b
variable {base n N:Nat} {wp:BL} {mo:Option Nat} {f:Int×Int->List (Tm N)} {sl:Int×Int->ar} {w:ag}
theorem iA.lt(c:iA base wp mo n N f sl w)(b:Nat)(a:sD wp mo sl b):base<=b/\b<w.heap.size:=by
 obtain⟨d,e,g⟩:=c;rcases a with rfl|a
 ·exact⟨d,e.lt⟩
 ·rcases g with⟨rfl,_,rfl⟩|⟨i,rfl,h⟩
  ·rcases a with a|⟨k,_,a⟩
   ·cases a
   ·simp[lU,Value.ownBlock]at a
  ·refine h.lt b ?_;rcases a with a|a
   ·exact aj (az a).symm
   ·exact ak a
theorem FS{wp:BL}{c b:Nat}{sl:Int×Int->ar}(a:zS c sl b):sD wp (some c) sl b:=by
 rcases a with rfl|a
 ·exact ak (aj rfl)
 ·exact ak (ak a)
theorem iA.kee{S:aO}{w':ag}(c:iA base wp mo n N f sl w)(k:bB S w w')(d:∀b,sD wp mo sl b->¬S b):iA base wp mo n N f sl w':=by
 have j:=(c.lt wp.b (aj rfl)).2;obtain⟨e,g,a⟩:=c;refine⟨e,g.kept (k.block wp.b j (d wp.b (aj rfl))),?_⟩;rcases a with a|⟨l,rfl,i⟩
 ·exact aj a
 ·exact ak ⟨l,rfl,i.kee k λb h=>d b (FS h)⟩
theorem iA.later{w':ag}(a:iA base wp mo n N f sl w)(k:am w w'):iA base wp mo n N f sl w':=a.kee (aR k λ_=>False) λ_ _ b=>b
theorem iA.row(a:iA base wp mo n N f sl w){k:Int×Int}(c:I2 k):ot base N (sl k) (f k) w:=by
 rcases a.2.2 with⟨_,rfl,rfl⟩|⟨d,_,b⟩
 ·exact⟨by simp[dq,cJ],aj ⟨rfl,rfl⟩⟩
 ·exact b.row k c
theorem iA.look(b:iA base wp mo n N f sl w){k:Int×Int}(a:I2 k):(Instr.lookup 51 (.map mo) (pk k) false).run Tryz.prog w=.ok (sl k) w:=by
 rcases b.2.2 with⟨rfl,_,rfl⟩|⟨d,rfl,c⟩
 ·exact Hy w a
 ·exact c.look a
theorem iA.cell(a:iA base wp mo n N f sl w):ah w wp.b (wp.o) (.map mo)/\∀j,w.frozen? ⟨wp.b,j,none⟩=false:=by
 exact a.2.1.cell
theorem ot.sliced{v:Value}{l:List (Tm N)}(d:ot base N v l w):∃a c,v=.slice a l.length c:=by
 rcases d.2 with⟨rfl,b⟩|⟨f,cap,e,rfl,_⟩
 ·exact⟨none,0,by rw[b]⟩
 ·exact⟨_,_,rfl⟩
theorem Jv(c:iA base wp mo n N f sl w){a b:Int}(g:I2 (a,b)):ao 160 #[.pointer (some ⟨wp.b,wp.o,none⟩),ab a,ab b] w λe w'=>e=.returned (ab (f (a,b)).length)/\w'=w:=by
 have i:=c.cell.1;obtain⟨sa,sc,h⟩:=(c.row g).sliced;have d:=c.look g;rw[h]at d;unfold pk at d;simp only at d;clear c;go_enter func160,ntmps160;go_wp2_with fail
 go_ret
 exact⟨rfl,rfl⟩
theorem F4(a:Int)(w:ag):ao 159 #[ab a] w λe w'=>e=.returned (.bool (decide (1<=a) && decide (a<=99)))/\w'=w:=by
 go_enter func159,ntmps159;by_cases b:1<=a<;>by_cases c:a<=99
 all_goals
  go_wp2_with fail
  go_ret
  simp[b,c]
variable {base mb n N:Nat} {f:Int×Int->List (Tm N)} {sl:Int×Int->ar} {w wr:ag}
def Oh(base mb n N:Nat)(f:Int×Int->List (Tm N))(sl:Int×Int->ar)(k:Int×Int)(g:Nat)(W e:ag):Prop:=
 ∀(a:ag)(c:ar)(l:List (Tm N)),a.heap[mb]?=e.heap[mb]? ->bB (λb=>b=mb\/(sl k).ownBlock=some b) W a->l≠[]->ot base N c l a->(∀b,c.ownBlock=some b->(sl k).ownBlock=some b\/W.heap.size<=b)->
  ∃d,(Instr.entryStore 51 (.map (some mb)) (goInt g) c).run Tryz.prog a=.ok () d/\GM base mb (n+1) N (fF f k l) (fF sl k c) d/\bB (λb=>b=mb) a d/\d.heap.size=a.heap.size
def OM(base mb n N:Nat)(f:Int×Int->List (Tm N))(sl:Int×Int->ar)(k:Int×Int)(y:Tm N)(wr c:ag):Prop:=
 ∃a,GM base mb (n+1) N (fF f k (f k++ [y])) (fF sl k a) c/\bB (zS mb sl) wr c/\∀b,zS mb (fF sl k a) b->zS mb sl b\/wr.heap.size<=b
theorem GM.open(d:GM base mb n N f sl wr){k:Int×Int}(h:I2 k)(i:n<1000000){W:ag}(e:am wr W):∃(c:Nat)(a:ag),(Instr.mapEntry 51 (.map (some mb)) (pk k)).run Tryz.prog W=.ok (.tuple #[sl k,goInt c]) a/\bB (λb=>b=mb) W a/\a.heap.size=W.heap.size/\Oh base mb n N f sl k c W a:=
 (d.kee (aR e λ_=>False) λ_ _ g=>g).entry h i
theorem Oh.done(o:GM base mb n N f sl wr){k:Int×Int}(s:I2 k){w L:Nat}{W i j e:ag}(B:Oh base mb n N f sl k w W i)(q:am wr W)(J:bB (λb=>b=mb) W i)(M:i.heap.size=W.heap.size)(l:am i j)(D:j.grownBy e (sl k).ownBlock){g c:Nat}{y:Tm N}(z:(f k).length=L)(F:e.ownsRow base 31 4 (ae (some ⟨g,0,none⟩) (L+1) c) (L+1) (dq N (f k)++uh (gF N y)))(A:(sl k).ownBlock=some g\/g=j.heap.size):∃h,(Instr.entryStore 51 (.map (some mb)) (goInt w) (ae (some ⟨g,0,none⟩) (L+1) c)).run Tryz.prog e=.ok () h/\OM base mb n N f sl k y wr h/\bB (λb=>b=mb) e h/\h.heap.size=e.heap.size:=by
 subst z;have K:=o.lt mb (aj rfl);have P:=q.size;have O:=l.size;have v:=eH D;have I:(Value.slice (some ⟨g,0,none⟩) ((f k).length+1) c).ownBlock=some g:=rfl;have u:∀b,(Value.slice (some ⟨g,0,none⟩) ((f k).length+1) c).ownBlock=some b->(sl k).ownBlock=some b\/W.heap.size<=b:=λb d=>by
  rw[I]at d;injection d with d;subst d;rcases A with a|a
  ·exact aj a
  ·exact ak (by omega)
 have p:bB (λb=>b=mb\/(sl k).ownBlock=some b) W e:=by
  refine bB.trans (bB.trans (J.mono λb _ a=>aj a) (aR l λ_=>False) λ_ _ C=>C.elim) v λb _ a=>ak a
 have E:e.heap[mb]?=i.heap[mb]? :=(v.block mb (by omega) (o.ne s)).trans (l.block mb (by omega))
 obtain⟨h,G,x,t,H⟩:=B e _ (f k++ [y]) E p (by simp) (by
  unfold ot;rw[qj,bt];have a:dq N [y]=uh (gF N y):=by simp[dq,cJ]
  rw[a]
  exact F) u
 refine⟨h,G,⟨_,x,?_,λb d=>?_⟩,t,H⟩
 ·refine bB.trans (bB.trans (aR q _) (p.mono (T:=λb=>b=mb\/(sl k).ownBlock=some b) λb _ a=>a) λb _ a=>?_) t λb _ a=>aj a;rcases a with a|a
  ·exact aj a
  ·exact ak ⟨k,s,a⟩
 ·rcases d with d|⟨m,r,d⟩
  ·exact aj (aj d)
  ·by_cases a:m=k
   ·subst a;rw[cw]at d;rcases u b d with a|a
    ·exact aj (ak ⟨m,r,a⟩)
    ·exact ak (by omega)
   ·rw[bH _ _ a]at d;exact aj (ak ⟨m,r,d⟩)
section
variable {ops:Array Oper} {o:Oper} {a:Act} {K:Act->ag->Prop} {Q:Exit->Act->ag->Prop} {E:Prop}
end
variable {base n N:Nat} {wp:BL} {mo:Option Nat} {f:Int×Int->List (Tm N)} {sl:Int×Int->ar} {w:ag}
def OV(base:Nat)(wp:BL)(mo:Option Nat)(n N:Nat)(f:Int×Int->List (Tm N))(sl:Int×Int->ar)(k:Int×Int)(l:List (Tm N))(w w':ag):Prop:=
 ∃a c,iA base wp a (n+1) N (fF f k l) c w'/\bB (sD wp mo sl) w w'/\∀b,sD wp a c b->sD wp mo sl b\/w.heap.size<=b
theorem Ho:(Tryz.prog.info? 31).map (λi=>(i.zero,i.size,i.bytes))=some (some (.agg #[ab 0,ab 0,af ⟨#[]⟩,ae none 0 0]),4,56):=by kernel_rfl
theorem M7(mb:Nat)(W:ag):(binOp .eql 51 (.map (some mb)) (.map none)).run Tryz.prog W=.ok (.bool false) W:=by kernel_rfl
theorem M6(W:ag):(binOp .eql 51 (.map none) (.map none)).run Tryz.prog W=.ok (.bool true) W:=by kernel_rfl
theorem fL{S:aO}{W a:ag}(c:bB S W a){b:Nat}(e:b<W.heap.size)(d:¬S b):∀o v,ah W b o v->ah a b o v:=λo _ f=>(c.cell o e d).trans f
theorem Fw(wp:BL)(mb:Nat)(i j:Int)(y0 y1:Int)(ys:ByteArray)(ya:Option Addr)(yl yc L sc:Nat)(sa:Option Addr)(xs:List Value)(base:Nat)(w wr:World)(ap:World->Nat->World->Prop)(aj:World->Prop)(bb:L<1000)(bd:base<=w.heap.size)(ai:wp.b<w.heap.size)(a2:(mb<w.heap.size/\wp.b≠mb/\wr=(w.alloc (.cells #[.int .i64 i,.int .i64 j] 44)).alloc (.cells #[.int .i64 y0,.int .i64 y1,.string ys,.slice ya yl yc] 31)/\(∀b,(Value.slice sa L sc).ownBlock=some b->b<w.heap.size/\b≠wp.b)/\Hid (w.cell? ⟨wp.b,wp.o,none⟩=some (.map (some mb))))\/(mb=w.heap.size+1+1/\wr=(((w.alloc (.cells #[.int .i64 i,.int .i64 j] 44)).alloc (.cells #[.int .i64 y0,.int .i64 y1,.string ys,.slice ya yl yc] 31)).alloc (.map #[] 0)).setCell ⟨wp.b,wp.o,none⟩ (.map (some mb))/\(∀b,(Value.slice sa L sc).ownBlock=some b->b<w.heap.size/\b≠wp.b)/\Hid (t8 wp none w)))(aT:Hid (∀W,bB (λb=>b=mb) wr W->W.ownsRow base 31 4 (.slice sa L sc) L xs))(aK:Hid (∀W,Below wr.heap.size wr W->∃(z:Nat)(a:World),(Instr.mapEntry 51 (.map (some mb)) (pk (i,j))).run Tryz.prog W=.ok (.tuple #[.slice sa L sc,goInt z]) a/\(bB (λb=>b=mb) W a/\a.heap.size=W.heap.size/\ap W z a)))(aU:Hid (∀W z a aa h g c,ap W z a->Below wr.heap.size wr W->bB (λb=>b=mb) W a->a.heap.size=W.heap.size->Below a.heap.size a aa->aa.grownBy h (Value.slice sa L sc).ownBlock->h.ownsRow base 31 4 (.slice (some ⟨g,0,none⟩) (L+1) c) (L+1) (xs++ [.int .i64 y0,.int .i64 y1,.string ys,.slice ya yl yc])->((Value.slice sa L sc).ownBlock=some g\/g=aa.heap.size)-> ∃l,(Instr.entryStore 51 (.map (some mb)) (goInt z) (.slice (some ⟨g,0,none⟩) (L+1) c)).run Tryz.prog h=.ok () l/\(aj l/\bB (λb=>b=mb) h l/\l.heap.size=h.heap.size))):Calls Tryz.prog 161 #[.pointer (some ⟨wp.b,wp.o,none⟩),.agg #[.int .i64 i,.int .i64 j],.agg #[.int .i64 y0,.int .i64 y1,.string ys,.slice ya yl yc]] w λe w'=>e=.returned (.tuple #[])/\aj w':=by
 obtain⟨D,ay,aH,aI,aJ⟩:=bU Ho;have M:Hid (Tryz.prog.info? 31=some D/\D.zero=some (.agg #[.int .i64 0,.int .i64 0,.string ⟨#[]⟩,.slice none 0 0])/\D.size=4/\D.bytes=56):=⟨ay,aH,aI,aJ⟩;clear ay aH aI aJ;rcases a2 with⟨ag,ah,m,T,A⟩|⟨ag,m,T,A⟩
 case' inl=>
  have ab:=A.out;have aL:=M7 mb;have O:Hid (∃f d,f=w.heap.size/\d=w.heap.size+1):=⟨_,_,rfl,rfl⟩;go_enter func161,ntmps161;go_wp2_with fail;obtain⟨f,d,x,y⟩:=O.out;rw[<-m,<-y,<-x];have aG:wr.heap.size=w.heap.size+2:=by rw[m];simp
  have ak:Hid (Below w.heap.size w wr):=by
   rw[m];exact((aA _ _).alloc (av _) _).alloc (by simp) _
  have Y:Hid (wr.heap[f]?=some (.cells #[.int .i64 i,.int .i64 j] 44)):=by
   rw[m,x];exact(((aA _ _).alloc (av _) _).block w.heap.size (by simp)).trans (aD w _)
  have Z:Hid (wr.heap[d]?=some (.cells #[.int .i64 y0,.int .i64 y1,.string ys,.slice ya yl yc] 31)):=by
   rw[m,y];have s:=aD (w.alloc (.cells #[.int .i64 i,.int .i64 j] 44)) (.cells #[.int .i64 y0,.int .i64 y1,.string ys,.slice ya yl yc] 31);have e:(w.alloc (.cells #[.int .i64 i,.int .i64 j] 44)).heap.size=w.heap.size+1:=by simp
   rwa [e]at s
  have V:Hid (wr.cell? ⟨wp.b,wp.o,none⟩=some (.map (some mb))):=(ak.cell (p:=⟨wp.b,wp.o,none⟩) ai).trans ab;clear ak
 case' inr=>
  have ab:w.cell? ⟨wp.b,wp.o,none⟩=some (.map none):=A.cell.1;have ad:t8 wp none (((w.alloc (.cells #[.int .i64 i,.int .i64 j] 44)).alloc (.cells #[.int .i64 y0,.int .i64 y1,.string ys,.slice ya yl yc] 31)).alloc (.map #[] 0)):=A.kept (((((aA w.heap.size w).alloc (av _) _).alloc (by simp) _).alloc (by simp;omega) _).block wp.b ai);have a9:(((w.alloc (.cells #[.int .i64 i,.int .i64 j] 44)).alloc (.cells #[.int .i64 y0,.int .i64 y1,.string ys,.slice ya yl yc] 31)).alloc (.map #[] 0)).frozen? ⟨wp.b,wp.o,none⟩=false:=ad.cell.2 _;have ba:(((w.alloc (.cells #[.int .i64 i,.int .i64 j] 44)).alloc (.cells #[.int .i64 y0,.int .i64 y1,.string ys,.slice ya yl yc] 31)).alloc (.map #[] 0)).cell? ⟨wp.b,wp.o,none⟩=some (.map none):=ad.cell.1;clear ad;have ah:wp.b≠mb:=by omega
  have aL:=M6;have be:= @lq Tryz.prog;have O:Hid (∃f d,f=w.heap.size/\d=w.heap.size+1):=⟨_,_,rfl,rfl⟩;go_enter func161,ntmps161;go_wp2_with fail;obtain⟨f,d,x,y⟩:=O.out;rw[<-ag,<-m,<-y,<-x];have aG:wr.heap.size=w.heap.size+3:=by rw[m];simp[World.setCell]
  have ae:∀b,b≠wp.b->wr.heap[b]?=(((w.alloc (.cells #[.int .i64 i,.int .i64 j] 44)).alloc (.cells #[.int .i64 y0,.int .i64 y1,.string ys,.slice ya yl yc] 31)).alloc (.map #[] 0)).heap[b]? :=λb C=>by
   rw[m];have:wp.b≠b:=λe=>C e.symm;simp[World.setCell,bQ,this]
  have Y:Hid (wr.heap[f]?=some (.cells #[.int .i64 i,.int .i64 j] 44)):=by
   rw[ae f (by omega),x];exact((((aA _ _).alloc (av _) _).alloc (by simp) _).block w.heap.size (by simp)).trans (aD w _)
  have Z:Hid (wr.heap[d]?=some (.cells #[.int .i64 y0,.int .i64 y1,.string ys,.slice ya yl yc] 31)):=by
   rw[ae d (by omega),y];have s:=aD (w.alloc (.cells #[.int .i64 i,.int .i64 j] 44)) (.cells #[.int .i64 y0,.int .i64 y1,.string ys,.slice ya yl yc] 31);have e:(w.alloc (.cells #[.int .i64 i,.int .i64 j] 44)).heap.size=w.heap.size+1:=by simp
   rw[e]at s;exact(((aA _ _).alloc (av _) _).block (w.heap.size+1) (by simp)).trans s
  have V:Hid (wr.cell? ⟨wp.b,wp.o,none⟩=some (.map (some mb))):=by
   rw[m];exact(t8.set (mo':=some mb) (A.kept (((((aA w.heap.size w).alloc (av _) (.cells #[.int .i64 i,.int .i64 j] 44)).alloc (by simp) (.cells #[.int .i64 y0,.int .i64 y1,.string ys,.slice ya yl yc] 31)).alloc (by simp;omega) (.map #[] 0)).block wp.b ai))).cell.1
  clear ae
 all_goals
  have az:f<wr.heap.size:=by omega
  have aB:d<wr.heap.size:=by omega
  have aC:wp.b<wr.heap.size:=by omega
  have a4:mb<wr.heap.size:=by omega
  have bc:base<=wr.heap.size:=by omega
  have S:f≠mb:=by omega
  have u:d≠mb:=by omega
  have U:∀b,(Value.slice sa L sc).ownBlock=some b->b≠f/\b≠d/\b≠wp.b:=λb C=>⟨by have:=(T b C).1;omega,by have:=(T b C).1;omega,(T b C).2⟩;have N:Hid (∀W,Below wr.heap.size wr W->W.cell? ⟨wp.b,wp.o,none⟩=some (.map (some mb))/\(W.cell? ⟨f,0,none⟩=some (.int .i64 i)/\W.cell? ⟨f,1,none⟩=some (.int .i64 j))/\(W.cell? ⟨d,0,none⟩=some (.int .i64 y0)/\W.cell? ⟨d,1,none⟩=some (.int .i64 y1)/\W.cell? ⟨d,2,none⟩=some (.string ys)/\W.cell? ⟨d,3,none⟩=some (.slice ya yl yc))):=by
   intro W n;have au:=(n.block f az).trans Y;have Q:=(n.block d aB).trans Z;exact⟨(n.cell (p:=⟨wp.b,wp.o,none⟩) aC).trans V,⟨by simp[World.cell?,au],by simp[World.cell?,au]⟩,by simp[World.cell?,Q],by simp[World.cell?,Q],by simp[World.cell?,Q],by simp[World.cell?,Q]⟩
  have X:Hid (∀B W a,bB B W a->wr.heap.size<=W.heap.size->¬B wp.b->¬B f->¬B d->(W.cell? ⟨wp.b,wp.o,none⟩=some (.map (some mb))/\(W.cell? ⟨f,0,none⟩=some (.int .i64 i)/\W.cell? ⟨f,1,none⟩=some (.int .i64 j))/\(W.cell? ⟨d,0,none⟩=some (.int .i64 y0)/\W.cell? ⟨d,1,none⟩=some (.int .i64 y1)/\W.cell? ⟨d,2,none⟩=some (.string ys)/\W.cell? ⟨d,3,none⟩=some (.slice ya yl yc)))->
    a.cell? ⟨wp.b,wp.o,none⟩=some (.map (some mb))/\(a.cell? ⟨f,0,none⟩=some (.int .i64 i)/\a.cell? ⟨f,1,none⟩=some (.int .i64 j))/\(a.cell? ⟨d,0,none⟩=some (.int .i64 y0)/\a.cell? ⟨d,1,none⟩=some (.int .i64 y1)/\a.cell? ⟨d,2,none⟩=some (.string ys)/\a.cell? ⟨d,3,none⟩=some (.slice ya yl yc))):=by
   rintro B W a k bf a6 a7 a8 ⟨E,⟨F,G⟩,H,I,J,K⟩;have aX:=fL k (b:=wp.b) (by omega) a6;have ar:=fL k (b:=f) (by omega) a7;have P:=fL k (b:=d) (by omega) a8;exact⟨aX _ _ E,⟨ar _ _ F,ar _ _ G⟩,P _ _ H,P _ _ I,P _ _ J,P _ _ K⟩
  have am:Hid (∀W a,Below wr.heap.size wr W->bB (λb=>b=mb) W a->a.cell? ⟨wp.b,wp.o,none⟩=some (.map (some mb))/\(a.cell? ⟨f,0,none⟩=some (.int .i64 i)/\a.cell? ⟨f,1,none⟩=some (.int .i64 j))/\(a.cell? ⟨d,0,none⟩=some (.int .i64 y0)/\a.cell? ⟨d,1,none⟩=some (.int .i64 y1)/\a.cell? ⟨d,2,none⟩=some (.string ys)/\a.cell? ⟨d,3,none⟩=some (.slice ya yl yc))):=
   λW a n k=>X _ W a k n.size ah S u (N W n)
  have aS:Hid (∀W a h,Below wr.heap.size wr W->bB (λb=>b=mb) W a->a.grownBy h (Value.slice sa L sc).ownBlock->h.cell? ⟨wp.b,wp.o,none⟩=some (.map (some mb))/\(h.cell? ⟨f,0,none⟩=some (.int .i64 i)/\h.cell? ⟨f,1,none⟩=some (.int .i64 j))/\(h.cell? ⟨d,0,none⟩=some (.int .i64 y0)/\h.cell? ⟨d,1,none⟩=some (.int .i64 y1)/\h.cell? ⟨d,2,none⟩=some (.string ys)/\h.cell? ⟨d,3,none⟩=some (.slice ya yl yc))):=
   λW a h n k a3=>X _ a h (eH a3) (aF n.size k.size) (λe=>(U _ e).2.2 rfl) (λe=>(U _ e).1 rfl) (λe=>(U _ e).2.1 rfl) (am W a n k)
  have q:Hid (Below wr.heap.size wr (wr.alloc (.cells #[.int .i64 y0,.int .i64 y1,.string ys,.slice ya yl yc] 31)).drew):=(show Below _ _ _ by go_grown);have ao:Hid ((wr.alloc (.cells #[.int .i64 y0,.int .i64 y1,.string ys,.slice ya yl yc] 31)).drew.heap.size=wr.heap.size+1):=(show _=_ by simp[World.drew]);have aM:Hid (∀a,bB (λb=>b=mb) (wr.alloc (.cells #[.int .i64 y0,.int .i64 y1,.string ys,.slice ya yl yc] 31)).drew a->bB (λb=>b=mb) wr a):=λa k=>bB.trans (aR q _) k λ_ _ e=>e
  have aN:Hid (∀a,bB (λb=>b=mb) (wr.alloc (.cells #[.int .i64 y0,.int .i64 y1,.string ys,.slice ya yl yc] 31)).drew a->a.heap[wr.heap.size]?=some (.cells #[.int .i64 y0,.int .i64 y1,.string ys,.slice ya yl yc] 31)):=
   λa k=>(k.block wr.heap.size (by rw[ao.out];omega) (by omega)).trans (aD wr _)
  have aQ:Hid (∀h l,(h.cell? ⟨wp.b,wp.o,none⟩=some (.map (some mb))/\(h.cell? ⟨f,0,none⟩=some (.int .i64 i)/\h.cell? ⟨f,1,none⟩=some (.int .i64 j))/\(h.cell? ⟨d,0,none⟩=some (.int .i64 y0)/\h.cell? ⟨d,1,none⟩=some (.int .i64 y1)/\h.cell? ⟨d,2,none⟩=some (.string ys)/\h.cell? ⟨d,3,none⟩=some (.slice ya yl yc)))->bB (λb=>b=mb) h l->(l.cell? ⟨wp.b,wp.o,none⟩=some (.map (some mb))/\(l.cell? ⟨f,0,none⟩=some (.int .i64 i)/\l.cell? ⟨f,1,none⟩=some (.int .i64 j))/\(l.cell? ⟨d,0,none⟩=some (.int .i64 y0)/\l.cell? ⟨d,1,none⟩=some (.int .i64 y1)/\l.cell? ⟨d,2,none⟩=some (.string ys)/\l.cell? ⟨d,3,none⟩=some (.slice ya yl yc)))):=by
   rintro h l ⟨E,⟨F,G⟩,H,I,J,K⟩ k;have lt:=λ(b o:Nat)(v:Value)(s:h.cell? ⟨b,o,none⟩=some v)=>iw h ⟨b,o,none⟩ s;exact⟨fL k (lt _ _ _ E) ah _ _ E,⟨fL k (lt _ _ _ F) S _ _ F,fL k (lt _ _ _ G) S _ _ G⟩,fL k (lt _ _ _ H) u _ _ H,fL k (lt _ _ _ I) u _ _ I,fL k (lt _ _ _ J) u _ _ J,fL k (lt _ _ _ K) u _ _ K⟩
  obtain⟨E,⟨F,G⟩,H,I,J,K⟩:=N.out wr (aA _ _);obtain⟨z,a,a0,R⟩:=aK _ q;have r:=aq R;have aO:=aq (am _ _ q R.1);have aW:=aq (R.2.1.trans ao);simp only[pk,goInt]at a0;clear R;clear ag x y m O aG V Y Z X ab az aB aC a4 S u U;go_wp2_with fail
  go_region_held3 (λW=>W.cell? ⟨wp.b,wp.o,none⟩=some (.map (some mb))/\(W.cell? ⟨f,0,none⟩=some (.int .i64 i)/\W.cell? ⟨f,1,none⟩=some (.int .i64 j))/\(W.cell? ⟨d,0,none⟩=some (.int .i64 y0)/\W.cell? ⟨d,1,none⟩=some (.int .i64 y1)/\W.cell? ⟨d,2,none⟩=some (.string ys)/\W.cell? ⟨d,3,none⟩=some (.slice ya yl yc)))
   (first|(go_keep;done)|exact N _ (aA _ _).drew|exact N _ q|exact aO|exact al|exact aP) ((first
    | (refine step_append_lies _ rfl _ _ 29 rfl base 31 D _ 4 56 underlying29 M.1 M.2.1 M.2.2.1 M.2.2.2 rfl (by decide) (.slice sa L sc) L xs (by simp[Act.eval]) (aT _ (aM _ r.1)) ⟨wr.heap.size,0,none⟩ 1 1 [.int .i64 y0,.int .i64 y1,.string ys,.slice ya yl yc] (by simp[Act.eval]) rfl (World.news_of_block (cs:= #[.int .i64 y0,.int .i64 y1,.string ys,.slice ya yl yc]) (t:=31) (fr:=(0,0)) (aN _ r.1)) (by simp[Value.oneCell']) (by decide) (by unfold maxLen;omega) (by omega) (by have:=aW.out;omega) _ rfl ?_;intro aZ aY h aE af ax a5;have aV:=aU _ _ _ _ _ aZ aY r.2.2 q r.1 r.2.1 (aA _ _) af aE ax;obtain⟨l,a1,aw⟩:=aV;have an:=aq aw;simp only[goInt]at a1;have al:=aq (aS _ _ _ q r.1 af);have aP:=aq (aQ _ _ al an.2.1);clear aE af ax a5 aw)))
  exact dG (v:=.tuple #[]) (by simp[results]) rfl ⟨rfl,an.1⟩
variable {base n N:Nat} {wp:BL} {mo:Option Nat} {f:Int×Int->List (Tm N)} {sl:Int×Int->Value} {w:World}
theorem ot.at{v:Value}{l:List (Tm N)}(d:ot base N v l w):∃a c,v=.slice a l.length c/\w.ownsRow base 31 4 (.slice a l.length c) l.length (dq N l):=by
 obtain⟨a,c,b⟩:=d.sliced;refine⟨a,c,b,?_⟩;rw[<-b];exact d
theorem Gn(y:Tm (N+1)):uh (gF (N+1) y)=[.int .i64 y.1.1,.int .i64 y.1.2.1,.string y.1.2.2,.slice y.2.1.1 y.2.2.length y.2.1.2]:=rfl
theorem xf{mb:Nat}(g:iA base wp (some mb) n N f sl w):wp.b≠mb:=by
 intro e;obtain⟨_,h,c⟩:=g;rcases c with⟨c,_⟩|⟨l,a,i⟩
 ·cases c
 ·injection a with a;subst a e;obtain⟨j,⟨es,k,d,_⟩,_⟩:=i.map;rw[h.2]at d;cases d
theorem AS(c:iA base wp mo n N f sl w){k:Int×Int}(g:I2 k):(sl k).ownBlock≠some wp.b:=by
 intro d;obtain⟨h,a⟩:=eI (c.row g) wp.b d;rw[c.2.1.2]at a;injection a with a;injection a with _ e _;exact c.2.1.1.2 e
theorem MF{f:Int×Int->List (Tm (N+1))}(d:iA base wp mo n (N+1) f sl w){k:Int×Int}(i:I2 k)(y:Tm (N+1))(ab:n<999999)(V:(f k).length<1000):Calls Tryz.prog 161 #[.pointer (some ⟨wp.b,wp.o,none⟩),pk k,dB (N+1) y] w λe w'=>e=.returned (.tuple #[])/\OV base wp mo n (N+1) f sl k (f k++ [y]) w w':=by
 have u:=d.lt wp.b (aj rfl);rcases d.2.2 with⟨rfl,rfl,rfl⟩|⟨mb,rfl,C⟩
 ·obtain⟨wr,j⟩:∃wr,wr=(((w.alloc (.cells #[.int .i64 k.1,.int .i64 k.2] 44)).alloc (.cells #[.int .i64 y.1.1,.int .i64 y.1.2.1,.string y.1.2.2,.slice y.2.1.1 y.2.2.length y.2.1.2] 31)).alloc (.map #[] 0)).setCell ⟨wp.b,wp.o,none⟩ (.map (some (w.heap.size+1+1))):=⟨_,rfl⟩;have X:wr.heap.size=w.heap.size+3:=by rw[j];simp[World.setCell]
  have S:bB (λb=>b=wp.b) w wr:=by
   rw[j];refine bB.trans (aR (((((aA w.heap.size w).alloc (av _) _).alloc (by simp) _).alloc (by simp;omega) _)) _) (bK _ wp.b wp.o _) λ_ _ e=>e
  have Y:t8 wp (some (w.heap.size+1+1)) wr:=by
   rw[j];exact(d.2.1.kept (((((aA w.heap.size w).alloc (av _) (.cells #[.int .i64 k.1,.int .i64 k.2] 44)).alloc (by simp) (.cells #[.int .i64 y.1.1,.int .i64 y.1.2.1,.string y.1.2.2,.slice y.2.1.1 y.2.2.length y.2.1.2] 31)).alloc (by simp;omega) (.map #[] 0)).block wp.b u.2)).set
  have l:GM base (w.heap.size+1+1) n (N+1) (λ_=> []) (λ_=>lU) wr:=by
   have O:=GM.new ((w.alloc (.cells #[.int .i64 k.1,.int .i64 k.2] 44)).alloc (.cells #[.int .i64 y.1.1,.int .i64 y.1.2.1,.string y.1.2.2,.slice y.2.1.1 y.2.2.length y.2.1.2] 31)) (N+1);have e:((w.alloc (.cells #[.int .i64 k.1,.int .i64 k.2] 44)).alloc (.cells #[.int .i64 y.1.1,.int .i64 y.1.2.1,.string y.1.2.2,.slice y.2.1.1 y.2.2.length y.2.1.2] 31)).heap.size=w.heap.size+1+1:=by simp
   rw[e]at O
   have P:=(O.kee (bK _ wp.b wp.o (.map (some (w.heap.size+1+1)))) λb a e=>by
    rcases a with a|⟨v,_,a⟩
    ·omega
    ·simp[lU,Value.ownBlock]at a)
   rw[<-j]at P;exact(P.rebase (by omega)).mono (aM _)
  refine(Fw wp (w.heap.size+1+1) k.1 k.2 y.1.1 y.1.2.1 y.1.2.2 y.2.1.1 y.2.2.length y.2.1.2 0 0 none [] base w wr (λh q m=>Oh base (w.heap.size+1+1) n (N+1) (λ_=> []) (λ_=>lU) k q h m) (λw'=>OV base wp none n (N+1) (λ_=> []) (λ_=>lU) k ([]++ [y]) w w') (by omega) (by omega) u.2 (ak ⟨rfl,j,λb a=>by simp[Value.ownBlock]at a,d.2.1⟩) ?_ ?_ ?_).mono λe w' d=>d
  ·intro h g;exact⟨rfl,aj ⟨rfl,rfl⟩⟩
  ·intro h g;exact l.open i (by omega) g
  ·intro h q m Q aa R c B g E I A s G r;obtain⟨M,H,D,F,J⟩:=Oh.done l i B g E I A s (y:=y) (L:=0) rfl (by simpa [dq,cJ,Gn]using G) r;refine⟨M,H,?_,F,J⟩;obtain⟨Z,x,p,z⟩:=D;have K:¬zS (w.heap.size+1+1) (λ_=>lU) wp.b:=by
    rintro (e|⟨v,_,e⟩)
    ·omega
    ·simp[lU,Value.ownBlock]at e
   refine⟨some (w.heap.size+1+1),_,⟨d.1,Y.kept (p.block wp.b (by omega) K),ak ⟨_,rfl,x⟩⟩,?_,λb a=>?_⟩
   ·refine bB.trans (S.mono λb _ e=>aj e) p λb a e=>?_;rcases e with e|⟨v,_,e⟩
    ·omega
    ·simp[lU,Value.ownBlock]at e
   ·rcases a with a|a|a
    ·exact aj (aj a)
    ·injection a with a;exact ak (by omega)
    ·rcases z b (ak a)with(e|⟨v,_,e⟩)|e
     ·exact ak (by omega)
     ·simp[lU,Value.ownBlock]at e
     ·exact ak (by omega)
 ·obtain⟨sa,sc,t,ad⟩:=(C.row k i).at;have W:=C.lt mb (aj rfl);obtain⟨wr,j⟩:∃wr,wr=(w.alloc (.cells #[.int .i64 k.1,.int .i64 k.2] 44)).alloc (.cells #[.int .i64 y.1.1,.int .i64 y.1.2.1,.string y.1.2.2,.slice y.2.1.1 y.2.2.length y.2.1.2] 31):=⟨_,rfl⟩;have a:Below w.heap.size w wr:=by
   rw[j];exact((aA _ _).alloc (av _) _).alloc (by simp) _
  have X:wr.heap.size=w.heap.size+2:=by rw[j];simp
  have l:GM base mb n (N+1) f sl wr:=C.kee (aR a λ_=>False) λ_ _ T=>T;refine(Fw wp mb k.1 k.2 y.1.1 y.1.2.1 y.1.2.2 y.2.1.1 y.2.2.length y.2.1.2 (f k).length sc sa (dq (N+1) (f k)) base w wr (λh q m=>Oh base mb n (N+1) f sl k q h m) (λw'=>OV base wp (some mb) n (N+1) f sl k (f k++ [y]) w w') V (by omega) u.2 (aj ⟨W.2,xf d,j,λb a=>?_,d.cell.1⟩) ?_ ?_ ?_).mono λe w' d=>d
  ·rw[<-t]at a;exact⟨((d.row i).lt b a).2,λe=>AS d i (by rw[a,e])⟩
  ·intro h g;rw[<-t];exact bw (l.row k i) g λb a e=>l.ne i (by rw[a,e])
  ·intro h g;rw[<-t];exact l.open i (by omega) g
  ·intro h q m Q aa R c B g E I A s G r;rw[<-t]at s r;obtain⟨M,H,D,F,J⟩:=Oh.done l i B g E I A s (y:=y) (L:=(f k).length) rfl (by simpa [Gn]using G) r;refine⟨M,H,?_,F,J⟩;obtain⟨Z,x,p,z⟩:=D;have K:¬zS mb sl wp.b:=by
    rintro (e|⟨v,U,e⟩)
    ·exact xf d e
    ·exact AS d U e
   refine⟨some mb,_,⟨d.1,(d.2.1.kept (a.block wp.b u.2)).kept (p.block wp.b (by omega) K),ak ⟨_,rfl,x⟩⟩,?_,λb a=>?_⟩
   ·exact bB.trans (aR a _) p λb _ e=>FS e
   ·rcases a with a|a|a
    ·exact aj (aj a)
    ·injection a with a;exact aj (ak (aj (by rw[a])))
    ·rcases z b (ak a)with e|e
     ·exact aj (FS e)
     ·exact ak (by omega)
def gL(b c:Bool)(a:Int)(cl:Bool)(L:Nat):Int:=if b=false\/c=false then 1 else if a≠0 then a else if cl=false then 5 else if 20<=L then 2 else 0
theorem Fp(wp:BL)(a b:Int)(k l:Int)(s:ap)(h:au)(j i:Nat)(v g:Bool)(d:Int)(cl:Bool)(L:Nat)(w:ag)(C:Int->Int->ap->au->Nat->Nat->ag->ag->Prop)(I:ag->Prop)(ak:L<=1000)(O:Hid (∀W,ao 159 #[ab a] W λe w'=>e=.returned (.bool v)/\w'=W))(P:Hid (∀W,ao 159 #[ab b] W λe w'=>e=.returned (.bool g)/\w'=W))(U:Hid (∀W,am w W->ao 53 #[.agg #[ab k,ab l,af s,ae h j i]] W λe w'=>e=.returned (ab d)/\am W w'))(V:Hid (∀W,am w W->ao 54 #[.agg #[ab k,ab l,af s,ae h j i]] W λe w'=>e=.returned (.bool cl)/\am W w'))(X:Hid (∀W,am w W->ao 160 #[.pointer (some ⟨wp.b,wp.o,none⟩),ab a,ab b] W λe w'=>e=.returned (ab L)/\w'=W))(S:Hid (∀W,d=0->am w W->ao 56 #[.agg #[ab k,ab l,af s,ae h j i]] W λe w'=>∃n p u q t r,e=.returned (.agg #[ab n,ab p,af u,ae q t r])/\Hid (C n p u q t r W w')))(Q:Hid (∀n p u q t r W w1,gL v g d cl L=0->C n p u q t r W w1->am w W->ao 161 #[.pointer (some ⟨wp.b,wp.o,none⟩),.agg #[ab a,ab b],.agg #[ab n,ab p,af u,ae q t r]] w1 λe w'=>e=.returned (.tuple #[])/\Hid (I w'))):ao 121 #[.pointer (some ⟨wp.b,wp.o,none⟩),ab a,ab b,.agg #[ab k,ab l,af s,ae h j i]] w λe w'=>e=.returned (ab (gL v g d cl L))/\(gL v g d cl L≠0->am w w')/\(gL v g d cl L=0->I w'):=by
 have M:Hid (∃m f,m=w.alloc (.cells #[ab k,ab l,af s,ae h j i] 31)/\f=w.heap.size):=⟨_,_,rfl,rfl⟩;go_enter func121,ntmps121;go_wp2_with fail;obtain⟨m,f,B,H⟩:=M.out;rw[<-B,<-H];have x:Hid (am w m):=by
  rw[B];exact aS _ _
 have K:Hid (m.heap[f]?=some (.cells #[ab k,ab l,af s,ae h j i] 31)/\f<m.heap.size):=by
  rw[B,H];exact⟨aD w _,by simp⟩
 have E:Hid (∀W,am m W->ah W f 0 (ab k)/\ah W f 1 (ab l)/\ah W f 2 (af s)/\ah W f 3 (ae h j i)):=by
  intro W aa;have c:=(aa.block f K.2).trans K.1;exact⟨ai c 0,ai c 1,ai c 2,ai c 3⟩
 clear B H M;refine(O m).mono ?_;rintro e w1 ⟨rfl,rfl⟩;cases v
 ·go_wp2_with fail
  go_ret
  have e:gL false g d cl L=1:=by simp[gL]
  rw[e];exact⟨rfl,λ_=>x,λc=>by cases c⟩
 ·go_wp2_with fail;refine(P _).mono ?_;rintro e an ⟨rfl,rfl⟩;cases g
  ·go_wp2_with fail
   go_ret
   have e:gL true false d cl L=1:=by simp[gL]
   rw[e];exact⟨rfl,λ_=>x,λc=>by cases c⟩
  ·obtain⟨t0,t1,t2,t3⟩:=E.out _ (aA _ _);go_wp2_with fail;refine(U _ x).mono ?_;rintro e ar ⟨rfl,F⟩;have D:=aq F;have A:=aq (x.trans (F.mono x.size));clear F t0 t1 t2 t3;by_cases z:d=0;rotate_left
   ·have al:¬(0:Int)=d:=λe=>z e.symm;go_wp2_with fail
    go_ret
    have e:gL true true d cl L=d:=by simp[gL,z]
    rw[e];exact⟨rfl,λ_=>A,λc=>absurd c z⟩
   ·obtain⟨t0,t1,t2,t3⟩:=E.out _ D;have aj:=aq z;subst z;go_wp2_with fail;refine(V _ A).mono ?_;rintro e av ⟨rfl,G⟩;have R:=aq (D.trans (G.mono D.size));have y:=aq (A.trans (G.mono A.size));clear G t0 t1 t2 t3;cases cl
    ·go_wp2_with fail
     go_ret
     have e:gL true true 0 false L=5:=by simp[gL]
     rw[e];exact⟨rfl,λ_=>y,λc=>by cases c⟩
    ·go_wp2_with fail;refine(X _ y).mono ?_;rintro e aw ⟨rfl,rfl⟩;by_cases N:20<=L
     ·have Z:(20:Int)<=(L:Int):=by omega
      go_wp2_with fail
      go_ret
      have e:gL true true 0 true L=2:=by simp[gL,N]
      rw[e];exact⟨rfl,λ_=>y,λc=>by cases c⟩
     ·have Z:¬(20:Int)<=(L:Int):=by omega
      have J:Hid (gL true true 0 true L=0):=(show gL true true 0 true L=0 by simp[gL,N]);obtain⟨t0,t1,t2,t3⟩:=E _ R;go_wp2_with fail;refine(S _ (by simp) y).mono ?_;rintro e ad ⟨n,p,u,q,t,r,rfl,Y⟩;go_wp2_with fail;refine(Q n p u q t r _ ad J Y y).mono ?_;rintro e ax ⟨rfl,T⟩;go_wp2_with fail
      go_ret
      rw[J.out];exact⟨rfl,λc=>absurd rfl c,λ_=>T⟩
theorem Fl{n:Nat}{x:Tm n}(a:bG n x=0):aJ ⟨n,x⟩:=by
 rw[aU];rw[<-gM]at a;unfold xD at a;split at a
 ·rename_i b;simpa using b
 ·cases a
variable {base n N:Nat} {wp:BL} {mo:Option Nat} {f:Int×Int->List (Tm (N+1))} {sl:Int×Int->ar} {w:ag}
def Lm(a:Int):Bool:=decide (1<=a) && decide (a<=99)
def mn(N:Nat)(a b:Int)(x:Tm (N+1))(L:Nat):Int:=gL (Lm a) (Lm b) (bG (N+1) x) (aT (N+1) x) L
def JH(base:Nat)(wp:BL)(mo:Option Nat)(n N:Nat)(f:Int×Int->List (Tm (N+1)))(sl:Int×Int->ar)(k:Int×Int)(x:Tm (N+1))(w w':ag):Prop:=
 ∃a c d,aB (N+1) a (N+1) x=true/\iA base wp c (n+1) (N+1) (fF f k (f k++ [a])) d w'/\bB (sD wp mo sl) w w'/\(∀b,sD wp c d b->sD wp mo sl b\/w.heap.size<=b)/\In w'.heap.size w' (N+1) a/\cv (λb=>w.heap.size<=b/\¬sD wp c d b) (N+1) a
theorem LF(i:iA base wp mo n (N+1) f sl w){a b:Int}(p:I2 (a,b))(x:Tm (N+1))(m:In w.heap.size w (N+1) x)(D:(aC (N+1) x).length<=2097152)(H:n<999999)(G:(f (a,b)).length<=1000):ao 121 #[.pointer (some ⟨wp.b,wp.o,none⟩),ab a,ab b,dB (N+1) x] w λe w'=>e=.returned (ab (mn N a b x (f (a,b)).length))/\(mn N a b x (f (a,b)).length≠0->am w w')/\(mn N a b x (f (a,b)).length=0->JH base wp mo n N f sl (a,b) x w w'):=by
 refine Fp wp a b x.1.1 x.1.2.1 x.1.2.2 x.2.1.1 x.2.2.length x.2.1.2 (Lm a) (Lm b) (bG (N+1) x) (aT (N+1) x) (f (a,b)).length w
  (λu v B y A z g w'=>∃c:Tm (N+1),(u=c.1.1/\v=c.1.2.1/\B=c.1.2.2/\y=c.2.1.1/\A=c.2.2.length/\z=c.2.1.2)/\am g w'/\In w'.heap.size w' (N+1) c/\cv (λM=>g.heap.size<=M) (N+1) c/\aB (N+1) c (N+1) x=true)
  (λw'=>JH base wp mo n N f sl (a,b) x w w') G (λg=>F4 a g) (λg=>F4 b g) (λg d=>?_) (λg d=>?_) (λg d=>?_) (λg F d=>?_) ?_
 ·exact ed (N+1) x w.heap.size g (m.below d) d.size D
 ·exact jf (N+1) x w.heap.size g (m.below d) d.size
 ·exact Jv (i.later d) p
 ·refine(iG (N+1) x w.heap.size g (m.below d) d.size (Fl F)).mono ?_;rintro e w' ⟨c,rfl,I⟩;exact⟨c.1.1,c.1.2.1,c.1.2.2,c.2.1.1,c.2.2.length,c.2.1.2,rfl,⟨c,⟨rfl,rfl,rfl,rfl,rfl,rfl⟩,I⟩⟩
 ·rintro u v B y A z g P h ⟨c,⟨rfl,rfl,rfl,rfl,rfl,rfl⟩,E,q,r,J⟩ d;have l:am w P:=d.trans (E.mono d.size);have C:(f (a,b)).length<1000:=by
   by_cases Q:20<=(f (a,b)).length
   ·exfalso;unfold gL at h;split at h
    ·cases h
    ·split at h
     ·contradiction
     ·split at h
      ·cases h
      ·first|cases h|(split at h<;>first|cases h|contradiction)
   ·omega
  refine(MF (i.later l) p c H C).mono ?_;rintro e w' ⟨rfl,L,O,K,s,t⟩;refine⟨rfl,c,L,O,J,K,bB.trans (aR l _) s λ_ _ e=>e,λb j=>?_,?_,?_⟩
  ·rcases t b j with e|e
   ·exact aj e
   ·exact ak (aF l.size e)
  ·refine q.kee s (r.mono λb j k=>?_);have:=(i.lt b k).2;have:=d.size;omega
  ·refine(In.offB r q).mono λb j=>⟨aF d.size j.1,λk=>?_⟩;rcases t b k with e|e
   ·have:=(i.lt b e).2;have:=d.size;omega
   ·omega
theorem I6(wp:BL)(mo:Option Nat)(a b:Int)(w:ag)(F:wp.b<w.heap.size)(y:Hid (ah w wp.b (wp.o) (.map mo)))(z:Hid (∀W,am w W->(Instr.lookup 51 (.map mo) (.agg #[ab a,ab b]) false).run Tryz.prog W=.ok (ae none 0 0) W)):ao 50 #[.pointer (some ⟨wp.b,wp.o,none⟩),ab a,ab b] w λe w'=>e=.returned (.tuple #[.agg #[ab 0,ab 0,af ⟨#[]⟩,ae none 0 0],ab 4])/\am w w':=by
 have t:=y.out;have s:Hid (∃wr c d,wr=(w.alloc (.cells #[ab 0,ab 0,af ⟨#[]⟩,ae none 0 0] 31)).alloc (.cells #[ab a,ab b] 44)/\c=w.heap.size/\d=w.heap.size+1):=⟨_,_,_,rfl,rfl,rfl⟩;go_enter func50,ntmps50;go_wp2_with fail;obtain⟨wr,c,d,f,l,m⟩:=s.out;rw[<-f,<-m,<-l];have E:wr.heap.size=w.heap.size+2:=by rw[f];simp
 have HB:Hid (am w wr):=by
  rw[f];exact(aS _ _).alloc (by simp) _
 have A:Hid (wr.heap[c]?=some (.cells #[ab 0,ab 0,af ⟨#[]⟩,ae none 0 0] 31)):=by
  rw[f,l];exact((aS _ _).block w.heap.size (by simp)).trans (aD w _)
 have B:Hid (wr.heap[d]?=some (.cells #[ab a,ab b] 44)):=by
  rw[f,m];have C:=aD (w.alloc (.cells #[ab 0,ab 0,af ⟨#[]⟩,ae none 0 0] 31)) (.cells #[ab a,ab b] 44);have e:(w.alloc (.cells #[ab 0,ab 0,af ⟨#[]⟩,ae none 0 0] 31)).heap.size=w.heap.size+1:=by simp
  rwa [e]at C
 have k:Hid (c<wr.heap.size/\d<wr.heap.size/\wp.b<wr.heap.size/\w.heap.size<=c/\w.heap.size<=d/\wp.b<w.heap.size):=(show _/\_ by omega);have r:Hid (∀W,am wr W->ah W wp.b (wp.o) (.map mo)/\ah W d 0 (ab a)/\ah W d 1 (ab b)):=by
  intro W j;have u:=(j.block d k.2.1).trans B;exact⟨((j.cell (p:=⟨wp.b,wp.o,none⟩) k.2.2.1).trans (HB.cell (p:=⟨wp.b,wp.o,none⟩) F)).trans t,ai u 0,ai u 1⟩
 have q:Hid (am wr wr.drew):=(aA _ _).drew;have n:Hid (∀W,am wr W->am w W):=λW j=>HB.trans (j.mono HB.size);have K:=z _ (n _ q);obtain⟨L,M,N⟩:=r.out wr (aA _ _);clear f l m s E t;go_region_held3 (λW=>ah W wp.b (wp.o) (.map mo)/\ah W d 0 (ab a)/\ah W d 1 (ab b)) (first|(go_keep;done)|exact r _ q) (fail);have g:=A.out;have G:ah wr c 0 (ab 0):=ai g 0;have H:ah wr c 1 (ab 0):=ai g 1;have I:ah wr c 2 (af ⟨#[]⟩):=ai g 2;have J:ah wr c 3 (ae none 0 0):=ai g 3;have h:∀x,wr.frozen? ⟨c,x,none⟩=false:=λx=>by simp[World.frozen?,g]
 have f0:=h 0;have f1:=h 1;have f2:=h 2;have f3:=h 3;clear h g;have i:=aq k.2.2.2.1;go_wp2_with fail;refine ay (v:=.tuple #[.agg #[ab 0,ab 0,af ⟨#[]⟩,ae none 0 0],ab 4]) (by simp[results,results50,go_sem,G,H,I,J]) rfl ⟨rfl,?_⟩;have D:=n _ (aA _ _);exact((((D.setCell i.out _).setCell i.out _).setCell i.out _).setCell i.out _).drew
theorem yQ(wp:BL)(mb g c m:Nat)(y0 y1:Int)(ys:ap)(ya:au)(yl yc:Nat)(a b:Int)(w:ag)(F:ag->Prop)(R:ag->ag->Prop)(a0:wp.b<w.heap.size)(L:g<w.heap.size)(a7:mb<w.heap.size)(aX:wp.b≠mb)(aV:wp.b≠g)(aK:Hid (ah w wp.b (wp.o) (.map (some mb))))(an:Hid (∀W,am w W->(Instr.lookup 51 (.map (some mb)) (.agg #[ab a,ab b]) false).run Tryz.prog W=.ok (ae (some ⟨g,0,none⟩) (m+1) c) W))(aP:Hid (ah w g 0 (ab y0)/\ah w g 1 (ab y1)/\ah w g 2 (af ys)/\ah w g 3 (ae ya yl yc)))(aT:(m=0/\Hid (∀W,am w W->∃w',(∀ty,(Builtin.delete_ #[51,44] ty #[.map (some mb),.agg #[ab a,ab b]]).run Tryz.prog W=.ok (.tuple #[]) w')/\bB (λb=>b=mb) W w'/\w'.heap.size=W.heap.size/\∀w2,Below w.heap.size w' w2->F w2))\/(1<=m/\m<=1000/\Hid (∀W,am w W->ao 84 #[ae (some ⟨g,0,none⟩) (m+1) c,ab 0,ab 1] W λe w'=>e=.returned (ae (some ⟨g,0,none⟩) m c)/\Hid (W.grownBy w' (some g)/\R W w'))/\Hid (∀W G,R W G->am w W->W.grownBy G (some g)->∃w',(Instr.mapUpdate 51 (.map (some mb)) (.agg #[ab a,ab b]) (ae (some ⟨g,0,none⟩) m c)).run Tryz.prog G=.ok () w'/\bB (λb=>b=mb) G w'/\∀w2,Below w.heap.size w' w2->F w2))):ao 50 #[.pointer (some ⟨wp.b,wp.o,none⟩),ab a,ab b] w λe w'=>e=.returned (.tuple #[.agg #[ab y0,ab y1,af ys,ae ya yl yc],ab 0])/\F w':=by
 have aE:=aK.out;have aB:Hid (∃wr f h,wr=(w.alloc (.cells #[ab 0,ab 0,af ⟨#[]⟩,ae none 0 0] 31)).alloc (.cells #[ab a,ab b] 44)/\f=w.heap.size/\h=w.heap.size+1):=⟨_,_,_,rfl,rfl,rfl⟩;go_enter func50,ntmps50;go_wp2_with fail;obtain⟨wr,f,h,t,Q,S⟩:=aB.out;rw[<-t,<-S,<-Q];have aZ:wr.heap.size=w.heap.size+2:=by rw[t];simp
 have HB:Hid (am w wr):=by
  rw[t];exact(aS _ _).alloc (by simp) _
 have aN:Hid (wr.heap[f]?=some (.cells #[ab 0,ab 0,af ⟨#[]⟩,ae none 0 0] 31)):=by
  rw[t,Q];exact((aS _ _).block w.heap.size (by simp)).trans (aD w _)
 have ax:Hid (wr.heap[h]?=some (.cells #[ab a,ab b] 44)):=by
  rw[t,S];have I:=aD (w.alloc (.cells #[ab 0,ab 0,af ⟨#[]⟩,ae none 0 0] 31)) (.cells #[ab a,ab b] 44);have e:(w.alloc (.cells #[ab 0,ab 0,af ⟨#[]⟩,ae none 0 0] 31)).heap.size=w.heap.size+1:=by simp
  rwa [e]at I
 have u:Hid (f<wr.heap.size/\h<wr.heap.size/\wp.b<wr.heap.size/\w.heap.size<=f/\w.heap.size<=h/\wp.b<w.heap.size):=(show _/\_ by omega);have P:Hid (∀W,am wr W->ah W wp.b (wp.o) (.map (some mb))/\ah W h 0 (ab a)/\ah W h 1 (ab b)):=by
  intro W r;have B:=(r.block h u.2.1).trans ax;exact⟨((r.cell (p:=⟨wp.b,wp.o,none⟩) u.2.2.1).trans (HB.cell (p:=⟨wp.b,wp.o,none⟩) a0)).trans aE,ai B 0,ai B 1⟩
 have al:Hid (am wr wr.drew):=(aA _ _).drew;have ak:Hid (∀W,am wr W->am w W):=λW r=>HB.trans (r.mono HB.size);have aU:=an _ (ak _ al);obtain⟨aH,aI,aJ⟩:=P.out wr (aA _ _);clear t Q S aB aZ aE;go_region_held3 (λW=>ah W wp.b (wp.o) (.map (some mb))/\ah W h 0 (ab a)/\ah W h 1 (ab b)) (first|(go_keep;done)|exact P _ al) (fail);obtain⟨T,U,V,X⟩:=aP;have A:=aw HB;replace T:=(A _ _ L).trans T;replace U:=(A _ _ L).trans U;replace V:=(A _ _ L).trans V;replace X:=(A _ _ L).trans X;clear A;rcases aT with⟨rfl,N⟩|⟨a5,a6,N,aO⟩
 case' inl=>simp only[cP]at an
 case' inr=>
  have bb:¬((m:Int)+1=0):=by omega
  have bc:¬((m:Int)+1=1):=by omega
  have bd:(0:Int)<(m:Int)+1:=by omega
 all_goals
  have aC:Hid (∃i n,(i=(wr.alloc (.cells #[ab y0,ab y1,af ys,ae ya yl yc] 31)).drew/\n=wr.heap.size)/\am wr i/\i.heap[n]?=some (.cells #[ab y0,ab y1,af ys,ae ya yl yc] 31)/\n<i.heap.size/\wr.heap.size<=n):=⟨_,_,⟨rfl,rfl⟩,(show Below _ _ _ by go_grown),aD wr _,by simp[World.drew],av _⟩;go_wp2_with fail;obtain⟨i,n,⟨aG,aF⟩,l⟩:=aC.out;rw[<-aG,<-aF];replace l:=aq l;clear aG aF aC aH aI aJ aU T U V X;have aj:=aq (ak _ l.1);have x:Hid (∀W:ag,(∀b,b<i.heap.size->b≠mb->b≠g->W.heap[b]?=i.heap[b]?)->(ah W wp.b (wp.o) (.map (some mb))/\ah W h 0 (ab a)/\ah W h 1 (ab b))/\(ah W n 0 (ab y0)/\ah W n 1 (ab y1)/\ah W n 2 (af ys)/\ah W n 3 (ae ya yl yc))/\(W.heap[f]?=some (.cells #[ab 0,ab 0,af ⟨#[]⟩,ae none 0 0] 31))):=by
   intro W r;obtain⟨a1,a2,be,bf,bg,bh⟩:=u.out;have a9:=l.1.size;have a8:=l.2.2.2;have B:=(r h (by omega) (by omega) (by omega)).trans ((l.1.block h a2).trans ax);have aQ:=(r f (by omega) (by omega) (by omega)).trans ((l.1.block f a1).trans aN);have H:=(r n l.2.2.1 (by omega) (by omega)).trans l.2.1;have aR:=r wp.b (by omega) aX aV;refine⟨⟨?_,ai B 0,ai B 1⟩,⟨ai H 0,ai H 1,ai H 2,ai H 3⟩,aQ⟩;have I:=(P i l.1).1;simp only[World.cell?,aR]at I ⊢;exact I
  have aL:Hid (am i i.drew):=(aA _ _).drew;have M:=aq (aj.trans (aL.mono aj.size));obtain⟨⟨aH,aI,aJ⟩,_,_⟩:=x.out i (λ_ _ _ _=>rfl);have ar:=aq (x i.drew (λ_ _ _ _=>rfl)).1
 ·go_region_held3 (λW=>ah W wp.b (wp.o) (.map (some mb))/\ah W h 0 (ab a)/\ah W h 1 (ab b)) (first|(go_keep;done)|exact ar|exact aM.1|exact y.1)
    ((first|(go_at_call 84;refine(N _ M).mono ?_;rintro e a3 ⟨rfl,z⟩;obtain⟨d,ba,D,C⟩:=aO _ _ z.2 M z.1;have aM:=aq (x a3 (λb s J K=>z.1.block b s (λe=>K (az e))));have y:=aq (x d (λb s J K=>(D.block b (aW s z.1.size) J).trans (z.1.block b s (λe=>K (az e)))));have O:=aq C;clear D C)))
  obtain⟨_,⟨t0,t1,t2,t3⟩,j⟩:=y.out;have Y:ah d f 0 (ab 0):=ai j 0;have Z:ah d f 1 (ab 0):=ai j 1;have aa:ah d f 2 (af ⟨#[]⟩):=ai j 2;have ad:ah d f 3 (ae none 0 0):=ai j 3;have k:∀E,d.frozen? ⟨f,E,none⟩=false:=λE=>by simp[World.frozen?,j]
  have f0:=k 0;have f1:=k 1;have f2:=k 2;have f3:=k 3;have q:=aq u.2.2.2.1;clear k j;go_wp2_with fail;refine ay (v:=.tuple #[.agg #[ab y0,ab y1,af ys,ae ya yl yc],ab 0]) (by simp[results,results50,go_sem,Y,Z,aa,ad]) rfl ⟨rfl,?_⟩;exact O.out _ (((((aA w.heap.size d).setCell q.out _).setCell q.out _).setCell q.out _).setCell q.out _)
 ·obtain⟨d,a4,D,aY,C⟩:∃d,(∀ty,(Builtin.delete_ #[51,44] ty #[.map (some mb),.agg #[ab a,ab b]]).run Tryz.prog i.drew=.ok (.tuple #[]) d)/\bB (λb=>b=mb) i.drew d/\d.heap.size=i.drew.heap.size/\∀w2,Below w.heap.size d w2->F w2:=N _ M;have y:=aq (x d (λb s J K=>D.block b s J));have O:=aq C;clear D aY C;go_region_held3 (λW=>ah W wp.b (wp.o) (.map (some mb))/\ah W h 0 (ab a)/\ah W h 1 (ab b)) (first|(go_keep;done)|exact ar|exact y.1) (fail);obtain⟨_,⟨t0,t1,t2,t3⟩,j⟩:=y;have Y:ah d f 0 (ab 0):=ai j 0;have Z:ah d f 1 (ab 0):=ai j 1;have aa:ah d f 2 (af ⟨#[]⟩):=ai j 2;have ad:ah d f 3 (ae none 0 0):=ai j 3;have k:∀E,d.frozen? ⟨f,E,none⟩=false:=λE=>by simp[World.frozen?,j]
  have f0:=k 0;have f1:=k 1;have f2:=k 2;have f3:=k 3;have q:=aq u.2.2.2.1;clear k j;go_wp2_with fail;refine ay (v:=.tuple #[.agg #[ab y0,ab y1,af ys,ae ya yl yc],ab 0]) (by simp[results,results50,go_sem,Y,Z,aa,ad]) rfl ⟨rfl,?_⟩;exact O.out _ (((((aA w.heap.size d).setCell q.out _).setCell q.out _).setCell q.out _).setCell q.out _)
variable {base n N:Nat} {wp:BL} {mo:Option Nat} {f:Int×Int->List (Tm (N+1))} {sl:Int×Int->ar} {w:ag}
def mA(base:Nat)(wp:BL)(mo:Option Nat)(n N:Nat)(f:Int×Int->List (Tm (N+1)))(sl:Int×Int->ar)(k:Int×Int)(l:List (Tm (N+1)))(w w':ag):Prop:=
 ∃a,iA base wp mo (n+1) (N+1) (fF f k l) a w'/\bB (sD wp mo sl) w w'/\∀b,sD wp mo a b->sD wp mo sl b
theorem mA.later{k:Int×Int}{l:List (Tm (N+1))}{w' w2:ag}(h:iA base wp mo n (N+1) f sl w)(g:mA base wp mo n N f sl k l w w')(a:Below w.heap.size w' w2):mA base wp mo n N f sl k l w w2:=by
 obtain⟨o,i,j,d⟩:=g;have e:bB (λb=>w.heap.size<=b) w' w2:=⟨a.os,a.tape,a.output,a.size,λb _ c=>a.block b (by omega)⟩;refine⟨o,i.kee e λb c m=>?_,bB.trans j e λb c m=>?_,d⟩
 ·have:=(h.lt b (d b c)).2;omega
 ·omega
theorem IN{base g c L:Nat}{y:Tm (N+1)}{l:List (Tm (N+1))}(b:w.ownsRow base 31 4 (ae (some ⟨g,0,none⟩) L c) L (dq (N+1) (y::l))):ah w g 0 (ab y.1.1)/\ah w g 1 (ab y.1.2.1)/\ah w g 2 (af y.1.2.2)/\ah w g 3 (ae y.2.1.1 y.2.2.length y.2.1.2):=by
 have a:=Ex (l:=(y::l).map (gF (N+1))) b 0 (gF (N+1) y) (by simp);simp only[Nat.zero_mul,cP]at a;exact a
theorem LV(d:iA base wp mo n (N+1) f sl w){a b:Int}(k:I2 (a,b))(aq:n<999999)(U:(f (a,b)).length<=1000):ao 50 #[.pointer (some ⟨wp.b,wp.o,none⟩),ab a,ab b] w λe w'=> (f (a,b)=[]->e=.returned (.tuple #[.agg #[ab 0,ab 0,af ⟨#[]⟩,ae none 0 0],ab 4])/\am w w')/\ ∀y l,f (a,b)=y::l->e=.returned (.tuple #[dB (N+1) y,ab 0])/\mA base wp mo n N f sl (a,b) l w w':=by
 have q:=d.lt wp.b (aj rfl);have x:∀h,am w h->(Instr.lookup 51 (.map mo) (.agg #[ab a,ab b]) false).run Tryz.prog h=.ok (sl (a,b)) h:=λh g=>(d.later g).look k;cases j:f (a,b)with
 | nil=>
  have s:sl (a,b)=ae none 0 0:=by
   rcases d.2.2 with⟨_,_,rfl⟩|⟨mb,rfl,r⟩
   ·rfl
   ·obtain⟨P,Q,F,G⟩:=r.map;have aa:has P (kl (a,b))=false:=by
     cases hh:has P (kl (a,b))
     ·rfl
     ·obtain⟨t,v,Y,S⟩:=(G _).1 hh;rw[<-mC k v Y]at S;exact absurd j S
    have:=F (a,b) k;rw[atKey_of_not_has aa]at this;injection this with this;exact this.symm
  rw[s]at x;refine(I6 wp mo a b w q.2 d.cell.1 x).mono ?_;rintro e w' ⟨rfl,c⟩;exact⟨λ_=>⟨rfl,c⟩,λy l e=>by cases e⟩
 | cons y l=>
  rcases d.2.2 with⟨_,rfl,_⟩|⟨mb,rfl,r⟩
  ·cases j
  ·obtain⟨sa,sc,s,z⟩:=(r.row (a,b) k).at;rw[j]at s z U;have V:=r.lt mb (aj rfl);obtain⟨i,rfl⟩:∃i,sa=some ⟨i,0,none⟩:=by
    rcases z.2 with⟨e,_⟩|⟨i,cap,ap,e,_⟩
    ·simp at e
    ·simp at e;exact⟨i,e.1⟩
   have T:=z.lt i rfl;have M:wp.b≠i:=λe=>AS d k (by rw[s,e];rfl);have X:=IN z;rw[s]at x;cases hl0:l with
   | nil=>
    subst hl0;refine(yQ wp mb i sc 0 y.1.1 y.1.2.1 y.1.2.2 y.2.1.1 y.2.2.length y.2.1.2 a b w (λw'=>mA base wp (some mb) n N f sl (a,b) [] w w') (λ_ _=>True) q.2 T.2 V.2 (xf d) M d.cell.1 x X (aj ⟨rfl,λh g=>?_⟩)).mono ?_
    ·have H:GM base mb n (N+1) f sl h:=r.kee (aR g λ_=>False) λ_ _ j=>j;obtain⟨u,O,I,m,W⟩:=H.drop k 3;have ad:∀ty,(Builtin.delete_ #[51,44] ty #[.map (some mb),.agg #[ab a,ab b]]).run Tryz.prog h=.ok (.tuple #[]) u:=λty=>O;refine⟨u,ad,m,W,λal J=>?_⟩;have p:mA base wp (some mb) n N f sl (a,b) [] w u:=by
      refine⟨_,⟨d.1,(d.2.1.kept (g.block wp.b q.2)).kept (m.block wp.b (aW q.2 g.size) (xf d)),ak ⟨mb,rfl,I.mono (fI n)⟩⟩,bB.trans (aR g _) m λB _ e=>ak (aj (by rw[e])),λB c=>?_⟩;rcases c with c|c|⟨t,v,c⟩
      ·exact aj c
      ·exact ak (aj c)
      ·by_cases e:t=(a,b)
       ·rw[e,cw]at c;simp[lU,Value.ownBlock]at c
       ·rw[bH _ _ e]at c;exact ak (ak ⟨t,v,c⟩)
     exact mA.later d p J
    ·rintro e w' ⟨rfl,p⟩;refine⟨λe=>(by cases e),λan ai e=>?_⟩;injection e with D E;subst D E;exact⟨rfl,p⟩
   | cons y2 au=>
    rw[<-hl0];have L:l≠[]:=by rw[hl0];simp
    have Z:1<=l.length:=List.length_pos_iff.2 L;refine(yQ wp mb i sc l.length y.1.1 y.1.2.1 y.1.2.2 y.2.1.1 y.2.2.length y.2.1.2 a b w (λw'=>mA base wp (some mb) n N f sl (a,b) l w w') (λh w'=>ot base (N+1) (ae (some ⟨i,0,none⟩) l.length sc) l w'/\w'.heap.size=h.heap.size) q.2 T.2 V.2 (xf d) M d.cell.1 x X (ak ⟨Z,by simp at U;omega,λh g=>?_,λh C R g K=>?_⟩)).mono ?_
    ·refine(DL base i sc l.length y l h rfl (bw z (aR g λ_=>False) λ_ _ j=>j) L).mono ?_;rintro e w' ⟨rfl,Q,F,G⟩;exact⟨rfl,F,Q,G⟩
    ·have H:GM base mb n (N+1) f sl h:=r.kee (aR g λ_=>False) λ_ _ j=>j;have A:(sl (a,b)).ownBlock=some i:=by rw[s];rfl
     obtain⟨u,O,I,m,W⟩:=H.store k (w1:=C) ((eH K).mono λb _ e=>A.trans e) L R.1 (λb c=>aj (A.trans c)) (by omega);refine⟨u,O,m,λal J=>?_⟩;have ah:bB (sD wp (some mb) sl) w C:=bB.trans (aR g _) (eH K) λB _ e=>ak (ak ⟨(a,b),k,A.trans e⟩);have ag:C.heap[wp.b]?=w.heap[wp.b]? :=(K.block wp.b (aW q.2 g.size) (λe=>M (az e))).trans (g.block wp.b q.2);have ar:=g.size;have p:mA base wp (some mb) n N f sl (a,b) l w u:=by
      refine⟨_,⟨d.1,(d.2.1.kept ag).kept (m.block wp.b (by rw[R.2];omega) (xf d)),ak ⟨mb,rfl,I⟩⟩,bB.trans ah m λB _ e=>ak (aj (by rw[e])),λB c=>?_⟩;rcases c with c|c|⟨t,v,c⟩
      ·exact aj c
      ·exact ak (aj c)
      ·by_cases e:t=(a,b)
       ·rw[e,cw]at c;exact ak (ak ⟨(a,b),k,A.trans c⟩)
       ·rw[bH _ _ e]at c;exact ak (ak ⟨t,v,c⟩)
     exact mA.later d p J
    ·rintro e w' ⟨rfl,p⟩;refine⟨λe=>(by cases e),λan ai e=>?_⟩;injection e with D E;subst D E;exact⟨rfl,p⟩
def jn(x y:Int):Int×Int:=(min x y,max x y)
def qJ:List Int:=(List.range 99).map λi:Nat=>(i:Int)+1
theorem B6{y:Int}:y∈qJ ↔ 1<=y/\y<=99:=by
 simp only[qJ,cm,List.mem_range];constructor
 ·rintro ⟨c,b,rfl⟩;omega
 ·intro a;exact⟨(y-1).toNat,by omega,by omega⟩
theorem oM:qJ.length=99:=by simp[qJ]
theorem ED:qJ.Nodup:=by
 unfold qJ;refine List.Pairwise.map _ ?_ List.nodup_range;intro c b a d;exact a (by omega)
theorem Ln(i:Nat)(a:i<99):qJ[i]?=some ((i:Int)+1):=by simp[qJ,a]
def ri(g:Int×Int->Bool)(x:Int):List Int:=qJ.filter λy=>g (jn x y)
def AY(g:Int×Int->Bool):Prop:=∀k,g k=true->1<=k.1/\k.1<k.2/\k.2<=99
theorem jE{g:Int×Int->Bool}{x y:Int}:y∈ri g x ↔ (1<=y/\y<=99)/\g (jn x y)=true:=by
 rw[ri,List.mem_filter,B6]
theorem pr(g:Int×Int->Bool)(x:Int):(ri g x).Nodup:=ED.sublist List.filter_sublist
theorem we(g:Int×Int->Bool)(x:Int):(ri g x).length<=99:=by
 have:=List.length_filter_le (λa=>g (jn x a)) qJ;rw[oM]at this;exact this
theorem ik(x y:Int):jn x y=(x,y)/\x<=y\/jn x y=(y,x)/\y<=x:=by
 rcases Int.le_total x y with a|a
 ·exact aj ⟨by simp[jn,Int.min_eq_left a,Int.max_eq_right a],a⟩
 ·exact ak ⟨by simp[jn,Int.min_eq_right a,Int.max_eq_left a],a⟩
theorem Ik{g:Int×Int->Bool}(c:AY g){x y:Int}(b:g (jn x y)=true):(1<=x/\x<=99)/\(1<=y/\y<=99)/\x≠y:=by
 have:=c _ b;rcases ik x y with⟨a,_⟩|⟨a,_⟩<;>(rw[a]at this;simp at this;omega)
theorem Ce{g:Int×Int->Bool}(b:AY g)(x:Int):x∉ri g x:=λa=>(Ik b (jE.1 a).2).2.2 rfl
def wo(g:Int×Int->Bool)(l:List Int):Int×Int->Bool:=λk=>g k && !l.contains k.1 && !l.contains k.2
theorem tr{g:Int×Int->Bool}{l:List Int}{k:Int×Int}:wo g l k=true ↔ g k=true/\k.1∉l/\k.2∉l:=by
 simp[wo,and_assoc]
theorem Ox{g:Int×Int->Bool}{l:List Int}{x y:Int}:wo g l (jn x y)=true ↔ g (jn x y)=true/\x∉l/\y∉l:=by
 rw[tr];rcases ik x y with⟨d,_⟩|⟨d,_⟩
 ·rw[d]
 ·rw[d];constructor
  ·rintro ⟨a,b,c⟩;exact⟨a,c,b⟩
  ·rintro ⟨a,b,c⟩;exact⟨a,c,b⟩
theorem AY.wo{g:Int×Int->Bool}(a:AY g)(l:List Int):AY (wo g l):=λk b=>a k (tr.1 b).1
theorem Qm(g:Int×Int->Bool)(l r:List Int):wo (wo g l) r=wo g (l++r):=by
 funext k;rw[Bool.eq_iff_iff,tr,tr,tr];simp only[cY,not_or];constructor
 ·rintro ⟨⟨a,b,c⟩,d,e⟩;exact⟨a,⟨b,d⟩,c,e⟩
 ·rintro ⟨a,⟨b,d⟩,c,e⟩;exact⟨⟨a,b,c⟩,d,e⟩
def ud(g:Int×Int->Bool)(x:Int)(l:List Int):Int×Int->Bool:=l.foldl (λg y=>fF g (jn x y) false) g
theorem Bq{g:Int×Int->Bool}{x:Int}{l:List Int}{k:Int×Int}:ud g x l k=true ↔ g k=true/\∀y∈l,k≠jn x y:=by
 induction l generalizing g with
 | nil=>simp[ud]
 | cons y l ih=>
  have b:ud g x (y::l)=ud (fF g (jn x y) false) x l:=rfl;rw[b,ih];unfold fF;by_cases a:k=jn x y
  ·simp[a]
  ·simp[a]
theorem GW(g:Int×Int->Bool)(x:Int)(l:List Int)(y:Int):ud g x (l++ [y])=fF (ud g x l) (jn x y) false:=by simp[ud]
theorem M2{g:Int×Int->Bool}(i:AY g)(x:Int):ud g x (ri g x)=wo g [x]:=by
 funext k;rw[Bool.eq_iff_iff,Bq,tr];refine and_congr_right λd=>?_;have l:=i k d;simp only[dx];constructor
 ·intro e;refine⟨λb=>?_,λb=>?_⟩
  ·have c:k=jn x k.2:=by
     rcases ik x k.2 with⟨a,_⟩|⟨_,a⟩
     ·rw[a,<-b]
     ·omega
   exact e k.2 (jE.2 ⟨by omega,c▸d⟩) c
  ·have c:k=jn x k.1:=by
     rcases ik x k.1 with⟨_,a⟩|⟨a,_⟩
     ·omega
     ·rw[a,<-b]
   exact e k.1 (jE.2 ⟨by omega,c▸d⟩) c
 ·rintro ⟨f,h⟩ j _ b;rcases ik x j with⟨a,_⟩|⟨a,_⟩
  ·exact f (by rw[b,a])
  ·exact h (by rw[b,a])
/-! ### who is told -/
def Ad(t l:List Int):List Int:=l.filter λy=> !t.contains y
def du(g:Int×Int->Bool)(x:Int):Nat->List Int
 | 0=>ri g x
 | i+1=>match (du g x i)[i]? with
  | some y=>du g x i++Ad (du g x i) (ri (wo g (x::(du g x i).take i)) y)
  | none=>du g x i
def tV(g:Int×Int->Bool)(x:Int):List Int:=du g x 99
theorem rR{t l:List Int}{y:Int}:y∈Ad t l ↔ y∈l/\y∉t:=by simp[Ad]
structure Told (g:Int×Int->Bool) (x:Int) (l:List Int):Prop where
 nodup:l.Nodup
 self:x∉l
 rng:∀y∈l,1<=y/\y<=99
 from':∀i y,l[i]?=some y->∃k∈x::l.take i,y∈ri g k
theorem Ag{t l:List Int}(c:t.Nodup)(d:l.Nodup)(e:∀y∈l,y∉t):(t++l).Nodup:=by
 rw[fH];exact⟨c,d,λh f b g a=>e b g (a▸f)⟩
theorem tO{l:List Int}{i:Nat}{y:Int}(c:l.Nodup)(g:l[i]?=some y):y∉l.take i:=by
 intro f;obtain⟨h,d,a⟩:=List.getElem_of_mem f;rw[dF]at d;rw[List.getElem_take]at a;obtain⟨e,b⟩:=aY.1 g;exact(List.pairwise_iff_getElem.1 c) h i (by omega) e (by omega) (a.trans b.symm)
theorem jr{g:Int×Int->Bool}(e:AY g)(x:Int):∀i,Told g x (du g x i)
 | 0=>⟨pr g x,Ce e x,λy c=>(jE.1 c).1,λi y c=>⟨x,by simp,aL c⟩⟩
 | i+1=>by
  have ih:=jr e x i;unfold du;split
  ·rename_i y c;refine⟨Ag ih.nodup ((pr _ _).sublist List.filter_sublist) λd b=>(rR.1 b).2,?_,?_,?_⟩
   ·intro a;rcases cY.1 a with a|a
    ·exact ih.self a
    ·have:=(Ox.1 (jE.1 (rR.1 a).1).2).2.2;simp at this
   ·intro d b;rcases cY.1 b with a|a
    ·exact ih.rng d a
    ·exact(jE.1 (rR.1 a).1).1
   ·intro j d b;rw[List.getElem?_append]at b;split at b
    ·rename_i h;obtain⟨k,l,m⟩:=ih.from' j d b;refine⟨k,?_,m⟩;rw[iR (by omega)];exact l
    ·rename_i h;have f:=rR.1 (aL b);refine⟨y,?_,jE.2 ⟨(jE.1 f.1).1,(Ox.1 (jE.1 f.1).2).1⟩⟩;refine bT _ ?_;rw[List.take_append];refine List.mem_append_left _ ?_;rw[bA (by omega)];exact aL c
  ·exact ih
theorem K8{l:List Int}(a:l.Nodup):∀{r:List Int},(∀y∈l,y∈r)->l.length<=r.length:=by
 induction l with
 | nil=>simp
 | cons y l ih=>
  intro r b;rw[lh]at a;have c:=b y (by simp);have:=ih a.2 (r:=r.erase y) λe d=>(List.mem_erase_of_ne (λf:e=y=>a.1 (f▸d))).2 (b e (by simp[d]));rw[List.length_erase_of_mem c]at this;have:=List.length_pos_of_mem c;simp;omega
theorem Told.le{g:Int×Int->Bool}{x:Int}{l:List Int}(a:Told g x l):l.length<=99:=by
 have:=K8 a.nodup (r:=qJ) λc b=>B6.2 (a.rng c b);rwa [oM]at this
theorem qV{g:Int×Int->Bool}{x:Int}{i:Nat}(a:(du g x i).length<=i):∀j,du g x (i+j)=du g x i
 | 0=>rfl
 | j+1=>by
  have ih:=qV a j;have:du g x (i+j+1)=du g x (i+j):=by
   rw[du];rw[eT (by rw[ih];omega)]
  rw[<-Nat.add_assoc,this,ih]
theorem Jb{g:Int×Int->Bool}(e:AY g){x:Int}{i:Nat}(d:(du g x i).length<=i):du g x i=tV g x:=by
 unfold tV;rcases Nat.le_total i 99 with a|a
 ·obtain⟨b,c⟩:=Nat.le.dest a;rw[<-c,qV d b]
 ·obtain⟨b,rfl⟩:=Nat.le.dest a;exact qV ((jr e x 99).le) b
theorem Fa{g:Int×Int->Bool}(a:AY g)(x:Int):Told g x (tV g x):=jr a x 99
theorem NK{x y a v:Int}:jn a v=jn x y ↔ (a=x/\v=y)\/(a=y/\v=x):=by
 rcases ik x y with⟨b,d⟩|⟨b,d⟩<;>rcases ik a v with⟨c,e⟩|⟨c,e⟩<;>(rw[b,c];simp only[eC];omega)
theorem IF(i:Nat)(a:i<99):qJ.take (i+1)=qJ.take i++ [(i:Int)+1]:=by
 rw[dA,Ln i a];rfl
def rY(g:Int×Int->Bool)(x:Int)(i:Nat):List Int:=(qJ.take i).filter λy=>g (jn x y)
theorem Il(g:Int×Int->Bool)(x:Int)(i:Nat)(a:i<99):rY g x (i+1)=rY g x i++if g (jn x ((i:Int)+1))then [(i:Int)+1]else []:=by
 rw[rY,IF i a,List.filter_append,List.filter_cons,List.filter_nil];rfl
theorem La(g:Int×Int->Bool)(x:Int):rY g x 99=ri g x:=by
 rw[rY,bA (by rw[oM];exact av _)];rfl
theorem Cf(g:Int×Int->Bool)(x:Int)(i:Nat):(rY g x i).length<=i:=by
 have:=List.length_filter_le (λa=>g (jn x a)) (qJ.take i);rw[dF]at this;unfold rY;omega
theorem Ih(t l:List Int)(y:Int)(b:y∉l):Ad t (l++ [y])=Ad t l++if (t++Ad t l).contains y then []else [y]:=by
 unfold Ad;rw[List.filter_append,List.filter_cons,List.filter_nil];have a:(t++l.filter λy=> !t.contains y).contains y=t.contains y:=by
  rw[Bool.eq_iff_iff];simp[b]
 rw[a];cases t.contains y<;>rfl
structure SM (base mb n:Nat) (g:Int×Int->Bool) (w:ag):Prop where
 lo:base<=mb
 map:∃D:DataW ar,w.ownsMap Tryz.prog 44 unitElem mb n D/\∀k,I2 k->has D (kl k)=g k
variable {base mb n:Nat} {g:Int×Int->Bool} {w:ag}
theorem SM.lt(a:SM base mb n g w):base<=mb/\mb<w.heap.size:=by
 obtain⟨c,b,_⟩:=a.map;exact⟨a.lo,b.lt⟩
theorem SM.kee{S:aO}{w':ag}(a:SM base mb n g w)(k:bB S w w')(f:¬S mb):SM base mb n g w':=by
 obtain⟨c,b,e⟩:=a.map;refine⟨a.lo,c,?_,e⟩;have i:=b.lt;obtain⟨es,d,h,j⟩:=b;exact⟨es,d,(k.block mb i f).trans h,j⟩
theorem SM.later{w':ag}(a:SM base mb n g w)(k:am w w'):SM base mb n g w':=a.kee (aR k λ_=>False) id
theorem SM.rebase{a:Nat}(b:SM base mb n g w)(c:a<=base):SM a mb n g w:=⟨aF c b.lo,b.map⟩
theorem SM.mono(b:SM base mb n g w){m:Nat}(f:n<=m):SM base mb m g w:=by
 obtain⟨c,a,d,e⟩:=b;exact⟨c,a,d.mono f,e⟩
theorem SM.new(w:ag):SM w.heap.size w.heap.size 0 (λ_=>false) (w.alloc (.map #[] 0)):=
 ⟨av _,.map [],nD w _ _ _,λk _=>by simp[has]⟩
theorem Dp(w:ag):(zeroValue 254).run Tryz.prog w=.ok (.agg #[]) w:=by kernel_rfl
theorem SM.look(b:SM base mb n g w){k:Int×Int}(a:I2 k):(Instr.lookup 70 (.map (some mb)) (pk k) true).run Tryz.prog w=.ok (.tuple #[.agg #[],.bool (g k)]) w:=by
 obtain⟨h,c,d⟩:=b.map;obtain⟨i,ps,e,f⟩:=c.look_ok dD underlying70 (Dp w) unitElem_mk (dE a);obtain⟨rfl,_⟩:=unitElem_inv f;rw[e,d k a]
theorem ES(w:ag){k:Int×Int}(b:I2 k):(Instr.lookup 70 (.map none) (pk k) true).run Tryz.prog w=.ok (.tuple #[.agg #[],.bool false]) w:=by
 have a:=look_nil (P:=Tryz.prog) (w:=w) true dD underlying70 (Dp w) (dE b);simpa using a
theorem SM.put(d:SM base mb n g w){k:Int×Int}(c:I2 k)(s:n<1000000):∃w2,(Instr.mapUpdate 70 (.map (some mb)) (pk k) (.agg #[])).run Tryz.prog w=.ok () w2/\SM base mb (n+1) (fF g k true) w2/\bB (λb=>b=mb) w w2/\w2.heap.size=w.heap.size:=by
 obtain⟨r,e,j⟩:=d.map;obtain⟨w2,o,m,q⟩:=e.store dD underlying70 (by unfold maxLen;omega) (dE c) unitElem_mk;obtain⟨l,p⟩:=gh q;refine⟨w2,o,⟨d.lo,_,m,λh f=>?_⟩,l,p⟩;by_cases a:h=k
 ·rw[a,cw,has_put_same e.isMap (dD.key (dE c))]
 ·rw[bH _ _ a,has_put_other λi=>a (mC f c i)];exact j h f
theorem SM.drop(c:SM base mb n g w){k:Int×Int}(e:I2 k)(ty:TypeId):∃w2,(Builtin.delete_ #[70,44] ty #[.map (some mb),pk k]).run Tryz.prog w=.ok (.tuple #[]) w2/\SM base mb n (fF g k false) w2/\bB (λb=>b=mb) w w2/\w2.heap.size=w.heap.size:=by
 obtain⟨r,i,j⟩:=c.map;obtain⟨w2,o,m,q⟩:=i.drop dD underlying70 (dE e) ty;obtain⟨l,p⟩:=gh q;refine⟨w2,o,⟨c.lo,_,m,λf d=>?_⟩,l,p⟩;by_cases a:f=k
 ·rw[a,cw,has_del_same]
 ·rw[bH _ _ a,has_del_other λh=>a (mC d e h)];exact j f d
/-! ### rows of numbers -/
def jY(l:List Int):List ar:=l.map (Value.int .i64)
theorem mf(l:List Int)(k:Int):jY (l++ [k])=jY l++ [ab k]:=by simp[jY]
def ja(base:Nat)(v:ar)(l:List Int)(w:ag):Prop:=w.ownsRow base 3 1 v l.length (jY l)
def ua(v:ar)(l:List Int)(w:ag):Prop:=∃a c,v=ae a l.length c/\(l=[]\/∃g o,a=some ⟨g,o,none⟩/\g<w.heap.size/\∀(i:Nat)(k:Int),l[i]?=some k->ah w g (o+i) (ab k))
theorem ja.row{v:ar}{l:List Int}(c:ja base v l w):ua v l w:=by
 have d:=c;rcases c.2 with⟨rfl,b⟩|⟨g,cap,i,rfl,_,e,_⟩
 ·exact⟨none,0,by rw[b],aj (bI b)⟩
 ·refine⟨some ⟨g,0,none⟩,cap,rfl,ak ⟨g,0,rfl,(aI.1 e).1,λh k f=>?_⟩⟩;have a:=d.cells (g:=g) rfl h (ab k) (by simp[jY,f]);rw[eP,cP]at a;rw[cP];exact a
theorem ja.nil(base:Nat)(w:ag):ja base (ae none 0 0) [] w:=⟨rfl,aj ⟨rfl,rfl⟩⟩
theorem ja.later{v:ar}{l:List Int}{w':ag}(a:ja base v l w)(k:am w w'):ja base v l w':=bw a (aR k λ_=>False) λ_ _ a=>a
theorem ua.later{v:ar}{l:List Int}{w':ag}(a:ua v l w)(k:am w w'):ua v l w':=by
 obtain⟨f,c,b,a⟩:=a;refine⟨f,c,b,?_⟩;rcases a with a|⟨g,o,b,d,a⟩
 ·exact aj a
 ·exact ak ⟨g,o,b,aW d k.size,λe i h=>(k.cell (p:=⟨g,o+e,none⟩) d).trans (a e i h)⟩
def oy(a:Int):Bool:=decide (1<=a) && decide (a<=99)
theorem mN(a:Int)(w:ag):ao 162 #[ab a] w λe w'=>e=.returned (.bool (oy a))/\w'=w:=by
 go_enter func162,ntmps162;by_cases b:1<=a
 ·go_wp2_with fail
  go_ret
  exact⟨bY (by simp[oy,b]),rfl⟩
 ·go_wp2_with fail
  go_ret
  exact⟨bY (by simp[oy];omega),rfl⟩
theorem o8(x y:Int)(w:ag):ao 157 #[ab x,ab y] w λe w'=>e=.returned (.agg #[ab (jn x y).1,ab (jn x y).2])/\am w w':=by
 go_enter func157,ntmps157;go_wp2_with fail
 all_goals
  exact ay (v:=.agg #[ab (jn x y).1,ab (jn x y).2]) (by simp[results,results157,go_sem,jn]<;>omega) rfl ⟨rfl,aS _ _⟩
theorem kv{base e sz n:Nat}{v:ar}{xs:List ar}{w d:ag}{o:Obj}(f:w.ownsRow base e sz v n xs)(c:(w.alloc o).grownBy d v.ownBlock)(g:base<=w.heap.size):Below base w d:=by
 have a:Below base w (w.alloc o):=(aA _ _).alloc g _;refine⟨c.os.trans a.os,c.tape.trans a.tape,c.output.trans a.output,aF a.size c.size,λb h=>(c.block b (by simp;omega) λe=>?_).trans (a.block b h)⟩;have:=(f.lt b e.symm).1;omega
theorem Ak{x y:Int}(b:dI x)(c:dI y):I2 (jn x y):=by
 rcases ik x y with⟨a,_⟩|⟨a,_⟩<;>rw[a]
 ·exact⟨b,c⟩
 ·exact⟨c,b⟩
theorem Qa(b:Nat)(a:b<=1000):dI (b:Int):=by unfold dI;omega
theorem JX(g:Int×Int->Bool)(i:BL)(mo:Option Nat)(x:Int)(w:ag)(ai:i.b<w.heap.size)(aw:Hid (dI x))(ad:Hid (ah w i.b (i.o) (.map mo)))(s:Hid (∀k,I2 k->∀W,am w W->(Instr.lookup 70 (.map mo) (pk k) true).run Tryz.prog W=.ok (.tuple #[.agg #[],.bool (g k)]) W)):ao 156 #[.pointer (some ⟨i.b,i.o,none⟩),ab x] w λe w'=>∃v,e=.returned v/\Hid (ja w.heap.size v (ri g x) w'/\am w w'):=by
 obtain⟨C,ak,ap,ar,au⟩:=bU FW;have l:Hid (Tryz.prog.info? 3=some C/\C.zero=some (ab 0)/\C.size=1/\C.bytes=8):=⟨ak,ap,ar,au⟩;clear ak ap ar au;go_enter func156,ntmps156;go_wp2_with fail;go_loopw [5,6] (λv aa wr=>∃(b:Nat),1<=b/\b<=100/\aa=ab b/\(∃q d c,v=ae q d c/\d<=99/\Hid ((rY g x (b-1)).length=d/\wr.ownsRow w.heap.size 3 1 (ae q d c) d (jY (rY g x (b-1)))/\am w wr))) (λ_ aa _=>100-(intOf aa).toNat)
 case atStart=>exact⟨1,by omega,by omega,rfl,none,0,0,rfl,by omega,rfl,⟨rfl,aj ⟨rfl,rfl⟩⟩,aA _ _⟩
 case round=>
  obtain⟨b,aE,F,rfl,q,d,c,rfl,X,a⟩:=hrel;by_cases aB:b<=99
  ·have aC:(b:Int)<=99:=by omega
   have V:ah wr i.b (i.o) (.map mo):=(a.2.2.cell (p:=⟨i.b,i.o,none⟩) ai).trans ad;have af:Hid (I2 (jn x b)):=Ak aw (Qa b (by omega));have j:Hid (rY g x b=rY g x (b-1)++if g (jn x b)then [(b:Int)]else []):=by
    have y:=Il g x (b-1) (by omega);have ax:b-1+1=b:=by omega
    have ay:((b-1:Nat):Int)+1=(b:Int):=by omega
    rw[ax,ay]at y;exact y
   have O:=λW Y=>s (jn x b) af W (a.2.2.trans (Below.mono Y a.2.2.size));have Z:=λW=>o8 x b W;obtain⟨t,an⟩:∃t,t=g (jn x b):=⟨_,rfl⟩;rw[<-an]at O j;have U:=aq (show d<=b-1 by have:=Cf g x (b-1);have:=a.1;omega);unfold pk at O;obtain⟨⟨aF,aG⟩,az⟩:∃p,p=jn x b:=⟨_,rfl⟩;rw[<-az]at O Z;have J:=aq Z;replace s:=aq O;have B:Hid (∀W,am wr W->ah W i.b (i.o) (.map mo)):=λW Y=>((a.2.2.trans (Below.mono Y a.2.2.size)).cell (p:=⟨i.b,i.o,none⟩) ai).trans ad;have D:Hid (am wr wr.drew):=(aA _ _).drew;have E:Hid (∀o:Obj,am wr (wr.alloc o).drew):=λo=>(aS _ o).drew;clear an O Z af;go_wp2_with fail
   go_region_held3 (λW=>ah W i.b (i.o) (.map mo)) (first|(go_keep;done)|exact B _ D|exact B _ (E _)|exact B _ (f.alloc f.size _)|exact B _ f) ((first
    | (go_at_call 157;refine(J _).mono ?_;rintro e G ⟨rfl,F⟩;have f:=aq (D.trans (F.mono D.size));have T:=s _ f;have al:=s _ (f.alloc f.size (.cells #[] 254));clear F)
    | (go_at_call 157;refine(J _).mono ?_;rintro e G ⟨rfl,F⟩;have f:=aq ((E _).trans (F.mono (E _).size));have T:=s _ f;clear F)))
   ·obtain⟨h,r⟩:∃h,h=G.alloc (.cells #[] 254):=⟨_,rfl⟩;rw[<-r];have n:Hid (am wr h):=by rw[r];exact f.alloc f.size _
    obtain⟨R,Q⟩:∃R,R=G.heap.size:=⟨_,rfl⟩;rw[<-Q];clear r al Q;have HB:=aq (a.2.2.trans (n.mono a.2.2.size));have m:=aq (bw a.2.1 (aR n λ_=>False) λ_ _ y=>y);have u:=aq a.1;have K:=aq HB.size;clear a f n s J B D E T V;cases t
    ·go_wp2_with fail;go_roundw
     case rel=>exact⟨b+1,by omega,by omega,by go_num,q,d,c,rfl,X,by rw[fp,j.out];simpa using u.out,by rw[fp,j.out];simpa using m.out,HB.out⟩
     case measure=>simp[intOf];omega
    ·go_wp2_with (first
       | (at_builtin;refine wpList_append_lies _ rfl _ _ 25 rfl w.heap.size 3 C _ 1 8 underlying25 l.1 l.2.1 l.2.2.1 l.2.2.2 rfl (by decide) (ae q d c) d (jY (rY g x (b-1))) rfl (m.alloc _) ⟨h.heap.size,0,none⟩ 1 1 [ab b] rfl rfl (World.news_of_block (cs:= #[ab b]) (t:=3) (fr:=(0,0)) (aD h _)) (by simp[Value.oneCell']) (by decide) (by unfold maxLen;omega) (by omega) (by have:=K.out;simp;omega) _ rfl ?_;intro M L av A z N P;have I:=aq A;have H:=aq (HB.trans (kv m z HB.size));clear A z N P))
     go_roundw
     case rel=>
      refine⟨b+1,by omega,by omega,by go_num,some ⟨M,0,none⟩,d+1,L,rfl,by have:=U.out;omega,?_,?_,H⟩
      ·rw[fp,j.out];simpa using u.out
      ·rw[fp,j.out,if_pos rfl,mf];exact I
     case measure=>simp[intOf];omega
   ·obtain⟨h,r⟩:∃h,h=G.alloc (.cells #[] 254):=⟨_,rfl⟩;rw[<-r];have n:Hid (am wr h):=by rw[r];exact f.alloc f.size _
    obtain⟨R,Q⟩:∃R,R=G.heap.size:=⟨_,rfl⟩;rw[<-Q];clear r Q;have HB:=aq (a.2.2.trans (n.mono a.2.2.size));have m:=aq (bw a.2.1 (aR n λ_=>False) λ_ _ y=>y);have u:=aq a.1;have K:=aq HB.size;clear a f n s J B D E T al V;cases t
    ·go_wp2_with fail;go_roundw
     case rel=>exact⟨b+1,by omega,by omega,by go_num,q,d,c,rfl,X,by rw[fp,j.out];simpa using u.out,by rw[fp,j.out];simpa using m.out,HB.out⟩
     case measure=>simp[intOf];omega
    ·go_wp2_with (first
       | (at_builtin;refine wpList_append_lies _ rfl _ _ 25 rfl w.heap.size 3 C _ 1 8 underlying25 l.1 l.2.1 l.2.2.1 l.2.2.2 rfl (by decide) (ae q d c) d (jY (rY g x (b-1))) rfl (m.alloc _) ⟨h.heap.size,0,none⟩ 1 1 [ab b] rfl rfl (World.news_of_block (cs:= #[ab b]) (t:=3) (fr:=(0,0)) (aD h _)) (by simp[Value.oneCell']) (by decide) (by unfold maxLen;omega) (by omega) (by have:=K.out;simp;omega) _ rfl ?_;intro M L av A z N P;have I:=aq A;have H:=aq (HB.trans (kv m z HB.size));clear A z N P))
     go_roundw
     case rel=>
      refine⟨b+1,by omega,by omega,by go_num,some ⟨M,0,none⟩,d+1,L,rfl,by have:=U.out;omega,?_,?_,H⟩
      ·rw[fp,j.out];simpa using u.out
      ·rw[fp,j.out,if_pos rfl,mf];exact I
     case measure=>simp[intOf];omega
   ·obtain⟨h,r⟩:∃h,h=G:=⟨_,rfl⟩;subst r;have n:=aq f.out;have HB:=aq (a.2.2.trans (n.mono a.2.2.size));have m:=aq (bw a.2.1 (aR n λ_=>False) λ_ _ y=>y);have u:=aq a.1;have K:=aq HB.size;clear a f n s J B D E T V;cases t
    ·go_wp2_with fail;go_roundw
     case rel=>exact⟨b+1,by omega,by omega,by go_num,q,d,c,rfl,X,by rw[fp,j.out];simpa using u.out,by rw[fp,j.out];simpa using m.out,HB.out⟩
     case measure=>simp[intOf];omega
    ·go_wp2_with (first
       | (at_builtin;refine wpList_append_lies _ rfl _ _ 25 rfl w.heap.size 3 C _ 1 8 underlying25 l.1 l.2.1 l.2.2.1 l.2.2.2 rfl (by decide) (ae q d c) d (jY (rY g x (b-1))) rfl (m.alloc _) ⟨h.heap.size,0,none⟩ 1 1 [ab b] rfl rfl (World.news_of_block (cs:= #[ab b]) (t:=3) (fr:=(0,0)) (aD h _)) (by simp[Value.oneCell']) (by decide) (by unfold maxLen;omega) (by omega) (by have:=K.out;simp;omega) _ rfl ?_;intro M L av A z N P;have I:=aq A;have H:=aq (HB.trans (kv m z HB.size));clear A z N P))
     go_roundw
     case rel=>
      refine⟨b+1,by omega,by omega,by go_num,some ⟨M,0,none⟩,d+1,L,rfl,by have:=U.out;omega,?_,?_,H⟩
      ·rw[fp,j.out];simpa using u.out
      ·rw[fp,j.out,if_pos rfl,mf];exact I
     case measure=>simp[intOf];omega
  ·obtain rfl:b=100:=by omega
   have S:=a.out;go_wp2_with fail
   go_ret
   refine⟨_,rfl,?_,S.2.2⟩;have e:=La g x;rw[show 100-1=99 from rfl]at S;rw[<-e];unfold ja;rw[S.1];exact S.2.1
def eY(base:Nat)(a:BL)(mo:Option Nat)(n:Nat)(g:Int×Int->Bool)(w:ag):Prop:=
 base<=a.b/\t8 a mo w/\((mo=none/\g=λ_=>false)\/∃mb,mo=some mb/\SM base mb n g w)
def MN(a:BL)(mo:Option Nat)(b:Nat):Prop:=b=a.b\/mo=some b
variable {base n:Nat} {bp:BL} {mo:Option Nat} {g:Int×Int->Bool} {w:ag}
theorem eY.lt(d:eY base bp mo n g w)(b:Nat)(a:MN bp mo b):base<=b/\b<w.heap.size:=by
 rcases a with rfl|a
 ·exact⟨d.1,d.2.1.lt⟩
 ·rcases d.2.2 with⟨c,_⟩|⟨mb,c,e⟩
  ·rw[c]at a;cases a
  ·rw[c]at a;injection a with a;subst a;exact e.lt
theorem eY.kee{S:aO}{w':ag}(c:eY base bp mo n g w)(k:bB S w w')(d:∀b,MN bp mo b->¬S b):eY base bp mo n g w':=by
 refine⟨c.1,c.2.1.kept (k.block bp.b (c.lt bp.b (aj rfl)).2 (d bp.b (aj rfl))),?_⟩;rcases c.2.2 with a|⟨mb,a,e⟩
 ·exact aj a
 ·exact ak ⟨mb,a,e.kee k (d mb (ak a))⟩
theorem eY.later{w':ag}(a:eY base bp mo n g w)(k:am w w'):eY base bp mo n g w':=a.kee (aR k λ_=>False) λ_ _ a=>a
theorem eY.cell(a:eY base bp mo n g w):ah w bp.b (bp.o) (.map mo)/\w.frozen? ⟨bp.b,bp.o,none⟩=false:=⟨a.2.1.cell.1,a.2.1.cell.2 _⟩
theorem eY.look(b:eY base bp mo n g w){k:Int×Int}(a:I2 k):(Instr.lookup 70 (.map mo) (pk k) true).run Tryz.prog w=.ok (.tuple #[.agg #[],.bool (g k)]) w:=by
 rcases b.2.2 with⟨rfl,rfl⟩|⟨mb,rfl,c⟩
 ·exact ES w a
 ·exact c.look a
theorem eY.ne{mb:Nat}(c:eY base bp (some mb) n g w):bp.b≠mb:=by
 intro e;rcases c.2.2 with⟨a,_⟩|⟨j,a,f⟩
 ·cases a
 ·injection a with a;subst a e;obtain⟨h,⟨es,i,d,_⟩,_⟩:=f.map;rw[c.2.1.2]at d;cases d
theorem MQ(a:eY base bp mo n g w){x:Int}(f:dI x):ao 156 #[.pointer (some ⟨bp.b,bp.o,none⟩),ab x] w λe w'=>∃v,e=.returned v/\Hid (ja w.heap.size v (ri g x) w'/\am w w'):=
 JX g bp mo x w (a.lt bp.b (aj rfl)).2 f a.cell.1 λ_ d _ c=>(a.later c).look d
theorem MS(mb:Nat)(W:ag):(binOp .eql 70 (.map (some mb)) (.map none)).run Tryz.prog W=.ok (.bool false) W:=by kernel_rfl
theorem MR(W:ag):(binOp .eql 70 (.map none) (.map none)).run Tryz.prog W=.ok (.bool true) W:=by kernel_rfl
theorem JV(bp:BL)(mb:Nat)(x y:Int)(w:ag)(g:ag->Prop)(v:bp.b<w.heap.size)(i:Hid (ah w bp.b (bp.o) (.map (some mb))))(l:Hid (oy x=true/\oy y=true))(C:x≠y)(k:Hid (∀W,am w W->∃w2,(Instr.mapUpdate 70 (.map (some mb)) (.agg #[ab (jn x y).1,ab (jn x y).2]) (.agg #[])).run Tryz.prog W=.ok () w2/\ah w2 bp.b (bp.o) (.map (some mb))/\Hid (g w2))):ao 122 #[.pointer (some ⟨bp.b,bp.o,none⟩),ab x,ab y] w λe w'=>e=.returned (ab 0)/\g w':=by
 have B:=i.out;have c:=λW=>mN x W;have d:=λW=>mN y W;have D:=MS mb;rw[l.out.1]at c;rw[l.out.2]at d;have n:=aq c;have q:=aq d;clear c d;have f:=λW=>o8 x y W;obtain⟨⟨F,G⟩,A⟩:∃p,p=jn x y:=⟨_,rfl⟩;rw[<-A]at f k;have t:=aq f;clear f;have j:Hid (∀W,am w W->ah W bp.b (bp.o) (.map (some mb))):=λW u=>(u.cell (p:=⟨bp.b,bp.o,none⟩) v).trans i;have a:Hid (am w w.drew):=(aA _ _).drew;go_enter func122,ntmps122;go_wp2_with fail;refine(n _).mono ?_;rintro e H ⟨rfl,rfl⟩;go_wp2_with fail;refine(q _).mono ?_;rintro e w2 ⟨rfl,rfl⟩;go_wp2_with fail
 go_region_held3 (λW=>ah W bp.b (bp.o) (.map (some mb))) (first|(go_keep;done)|exact j _ a|exact j _ h|exact r) ((first
       | (go_at_call 157;refine(t _).mono ?_;rintro e I ⟨rfl,m⟩;have h:=aq (a.trans (m.mono a.size));obtain⟨J,E,z,s⟩:=k _ h;have r:=aq z;clear m)))
 go_wp2_with fail
 go_ret
 exact⟨rfl,s⟩
theorem GK(bp:BL)(x y:Int)(w w0:ag)(g:ag->Prop)(F:bp.b<w.heap.size)(s:Hid (ah w bp.b (bp.o) (.map none)/\w.frozen? ⟨bp.b,bp.o,none⟩=false))(l:Hid (oy x=true/\oy y=true))(H:x≠y)(n:w0=(w.setCell ⟨bp.b,bp.o,none⟩ (.map (some w.heap.size))).alloc (.map #[] 0))(i:Hid (ah w0 bp.b (bp.o) (.map (some w.heap.size))))(B:bp.b<w0.heap.size)(k:Hid (∀W,am w0 W->∃w2,(Instr.mapUpdate 70 (.map (some w.heap.size)) (.agg #[ab (jn x y).1,ab (jn x y).2]) (.agg #[])).run Tryz.prog W=.ok () w2/\ah w2 bp.b (bp.o) (.map (some w.heap.size))/\Hid (g w2))):ao 122 #[.pointer (some ⟨bp.b,bp.o,none⟩),ab x,ab y] w λe w'=>e=.returned (ab 0)/\g w':=by
 obtain⟨E,f0⟩:=s;have c:=λW=>mN x W;have d:=λW=>mN y W;have I:=MR;have G:= @lq Tryz.prog;rw[l.out.1]at c;rw[l.out.2]at d;have q:=aq c;have r:=aq d;clear c d;have f:=λW=>o8 x y W;obtain⟨⟨K,L⟩,D⟩:∃p,p=jn x y:=⟨_,rfl⟩;rw[<-D]at f k;have v:=aq f;have z:=aq n;clear f n;have j:Hid (∀W,am w0 W->ah W bp.b (bp.o) (.map (some w.heap.size))):=λW A=>(A.cell (p:=⟨bp.b,bp.o,none⟩) B).trans i;have a:Hid (am w0 w0.drew):=(aA _ _).drew;go_enter func122,ntmps122;go_wp2_with fail;refine(q _).mono ?_;rintro e M ⟨rfl,rfl⟩;go_wp2_with fail;refine(r _).mono ?_;rintro e w2 ⟨rfl,rfl⟩;go_wp2_with fail;rw[<-z.out];have d0:=i.out
 go_region_held3 (λW=>ah W bp.b (bp.o) (.map (some w2.heap.size))) (first|(go_keep;done)|exact j _ a|exact j _ h|exact t) ((first
       | (go_at_call 157;refine(v _).mono ?_;rintro e N ⟨rfl,m⟩;have h:=aq (a.trans (m.mono a.size));obtain⟨O,J,C,u⟩:=k _ h;have t:=aq C;clear m)))
 go_wp2_with fail
 go_ret
 exact⟨rfl,u⟩
theorem GJ(bp:BL)(x y:Int)(w:ag)(a:oy x=false\/oy y=false\/x=y):ao 122 #[.pointer (some ⟨bp.b,bp.o,none⟩),ab x,ab y] w λe w'=>e=.returned (ab 1)/\w'=w:=by
 have f:=λc=>mN x c;have g:=λc=>mN y c;obtain⟨d,h⟩:∃d,d=oy x:=⟨_,rfl⟩;obtain⟨b,i⟩:∃b,b=oy y:=⟨_,rfl⟩;rw[<-h]at f a;rw[<-i]at g a;have k:=aq f;have l:=aq g;have m:=aq a;clear f g h i a;go_enter func122,ntmps122;go_wp2_with fail;refine(k _).mono ?_;rintro e p ⟨rfl,rfl⟩;cases d
 ·go_wp2_with fail
  go_ret
  exact⟨rfl,rfl⟩
 ·go_wp2_with fail;refine(l _).mono ?_;rintro e q ⟨rfl,rfl⟩;cases b
  ·go_wp2_with fail
   go_ret
   exact⟨rfl,rfl⟩
  ·have j:x=y:=by simpa using m.out
   have n:=aq j;subst j;go_wp2_with fail
   go_ret
   exact⟨rfl,rfl⟩
variable {base n:Nat} {bp:BL} {mo:Option Nat} {g:Int×Int->Bool} {w:ag}
def vQ(x y:Int):Int:=if oy x=true/\oy y=true/\x≠y then 0 else 1
def OE(base:Nat)(bp:BL)(mo:Option Nat)(n:Nat)(g:Int×Int->Bool)(w w':ag):Prop:=
 ∃a,eY base bp a n g w'/\bB (MN bp mo) w w'/\∀b,MN bp a b->MN bp mo b\/w.heap.size<=b
theorem eY.mono(b:eY base bp mo n g w){m:Nat}(c:n<=m):eY base bp mo m g w:=by
 refine⟨b.1,b.2.1,?_⟩;rcases b.2.2 with a|⟨mb,a,d⟩
 ·exact aj a
 ·exact ak ⟨mb,a,d.mono c⟩
theorem GI(a:eY base bp mo n g w){x y:Int}(z:dI x)(A:dI y)(v:n<1000000):ao 122 #[.pointer (some ⟨bp.b,bp.o,none⟩),ab x,ab y] w λe w'=>e=.returned (ab (vQ x y))/\Hid (OE base bp mo (n+1) (if vQ x y=0 then fF g (jn x y) true else g) w w'):=by
 have q:=a.lt bp.b (aj rfl);by_cases f:oy x=true/\oy y=true/\x≠y
 ·have p:vQ x y=0:=if_pos f;rw[p,if_pos rfl];rcases a.2.2 with⟨rfl,rfl⟩|⟨mb,rfl,D⟩
  ·obtain⟨h,l⟩:∃h,h=(w.setCell ⟨bp.b,bp.o,none⟩ (.map (some w.heap.size))).alloc (.map #[] 0):=⟨_,rfl⟩;have G:bB (λb=>b=bp.b) w (w.setCell ⟨bp.b,bp.o,none⟩ (.map (some w.heap.size))):=bK w bp.b bp.o _;have s:(w.setCell ⟨bp.b,bp.o,none⟩ (.map (some w.heap.size))).heap.size=w.heap.size:=by simp[World.setCell]
   have F:bB (λb=>b=bp.b) w h:=by
    rw[l];exact bB.trans G (aR (aS _ _) λ_=>False) λ_ _ a=>a.elim
   have t:t8 bp (some w.heap.size) h:=by
    rw[l];exact(a.2.1.set).kept ((aS _ _).block bp.b (by rw[s];exact q.2))
   have H:h.heap.size=w.heap.size+1:=by rw[l,iV,s]
   have C:SM base w.heap.size n (λ_=>false) h:=by
    have u:=SM.new (w.setCell ⟨bp.b,bp.o,none⟩ (.map (some w.heap.size)));rw[s,<-l]at u;exact(u.rebase (by omega)).mono (aM _)
   refine(GK bp x y w h (λw'=>OE base bp none (n+1) (fF (λ_=>false) (jn x y) true) w w') q.2 a.cell ⟨f.1,f.2.1⟩ f.2.2 l t.cell.1 (by omega) ?_).mono λe w' a=>⟨a.1,a.2⟩;intro B d;obtain⟨m,r,i,k,E⟩:=(C.later d).put (Ak z A) v;have j:t8 bp (some w.heap.size) m:=(t.kept (d.block bp.b (by omega))).kept (k.block bp.b (by have:=d.size;omega) (by omega));refine⟨m,r,j.cell.1,some w.heap.size,⟨a.1,j,ak ⟨_,rfl,i⟩⟩,?_,λb c=>?_⟩
   ·refine bB.trans (bB.trans (F.mono λb _ e=>aj e) (aR d λ_=>False) λ_ _ a=>a.elim) k λb c e=>?_;omega
   ·rcases c with c|c
    ·exact aj (aj c)
    ·injection c with c;exact ak (by omega)
  ·refine(JV bp mb x y w (λw'=>OE base bp (some mb) (n+1) (fF g (jn x y) true) w w') q.2 a.cell.1 ⟨f.1,f.2.1⟩ f.2.2 ?_).mono λe w' a=>⟨a.1,a.2⟩;intro B d;obtain⟨m,r,i,k,E⟩:=(D.later d).put (Ak z A) v;have j:t8 bp (some mb) m:=(a.2.1.kept (d.block bp.b (by omega))).kept (k.block bp.b (by have:=d.size;omega) a.ne);refine⟨m,r,j.cell.1,some mb,⟨a.1,j,ak ⟨_,rfl,i⟩⟩,?_,λb c=>aj c⟩;exact bB.trans (aR d _) k λb _ e=>ak (by rw[e])
 ·have p:vQ x y=1:=if_neg f;rw[p,if_neg (by decide)];refine(GJ bp x y w ?_).mono ?_
  ·cases h1:oy x
   ·exact aj rfl
   ·cases i:oy y
    ·exact ak (aj rfl)
    ·refine ak (ak ?_);by_cases e:x=y
     ·exact e
     ·exact absurd ⟨h1,i,e⟩ f
  ·rintro e w' ⟨rfl,rfl⟩;exact⟨rfl,mo,a.mono (fI n),bB.refl _ _,λb c=>aj c⟩
theorem D7(a:au)(c:Nat)(l:List Int)(L:Nat)(y:Int)(w:ag)(x:L<=1000000)(n:Hid (l.length=L))(q:Hid (∀(i:Nat)(k:Int),l[i]?=some k->∃g o,a=some ⟨g,o,none⟩/\ah w g (o+i) (ab k))):ao 158 #[ae a L c,ab y] w λe w'=>∃r:Int,e=.returned (ab r)/\w'=w/\Hid (decide (0<=r)=l.contains y):=by
 go_enter func158,ntmps158;go_wp2_with fail;go_loopw [8] (λi wr=>∃b:Nat,b<=L/\i=ab b/\wr=w/\Hid (y∉l.take b)) (λi _=>L-(intOf i).toNat)
 case atStart=>exact⟨0,aM _,rfl,rfl,by simp[Hid]⟩
 case round=>
  obtain⟨b,u,rfl,rfl,p⟩:=hrel;by_cases s:b<L
  ·obtain⟨k,j⟩:∃k,l[b]?=some k:=⟨l[b]'(by rw[n.out];exact s),aN _⟩;obtain⟨g,o,rfl,t⟩:=q b k j;have m:=aq j;clear j;have z:(0:Int)<=(b:Int):=by omega
   have A:(b:Int)<(L:Int):=by omega
   by_cases h:y=k
   ·have f:Hid (l.contains y=true):=by
      rw[h];exact List.contains_iff_mem.2 (aL m)
    subst h;go_wp2_with fail
    go_ret
    exact⟨(b:Int),rfl,rfl,by rw[f.out];simp[Hid]⟩
   ·have f:Hid (y∉l.take (b+1)):=by
      rw[dA,m.out];intro d;rcases cY.1 d with d|d
      ·exact p d
      ·exact h (by simpa using d)
    have v:¬k=y:=λe=>h e.symm;go_wp2_with fail;go_roundw
    case rel=>exact⟨b+1,by omega,by go_num,trivial,f⟩
    case measure=>simp[intOf];omega
  ·obtain rfl:b=L:=by omega
   have f:Hid (l.contains y=false):=by
    have d:=p.out;rw[bA (by rw[n.out];exact av _)]at d;exact(show l.contains y=false by simpa using d)
   go_wp2_with fail
   go_ret
   exact⟨-1,rfl,rfl,by rw[f.out];simp[Hid]⟩
theorem ua.cells{v:ar}{l:List Int}(b:ua v l w):∃a c,v=ae a l.length c/\∀(i:Nat)(k:Int),l[i]?=some k->∃g o,a=some ⟨g,o,none⟩/\ah w g (o+i) (ab k):=by
 obtain⟨a,c,d,b⟩:=b;refine⟨a,c,d,λi k e=>?_⟩;rcases b with rfl|⟨g,o,d,_,b⟩
 ·simp at e
 ·exact⟨g,o,d,b i k e⟩
theorem vD(v:ar)(y:Int)(t:Bool)(w:ag)(a:Hid (ao 158 #[v,ab y] w λe w'=>∃r:Int,e=.returned (ab r)/\w'=w/\Hid (decide (0<=r)=t))):ao 120 #[v,ab y] w λe w'=>e=.returned (.bool t)/\w'=w:=by
 go_enter func120,ntmps120;go_wp2_with fail;refine a.mono ?_;rintro e c ⟨r,rfl,rfl,b⟩;go_wp2_with fail
 go_ret
 exact⟨bY (by rw[<-b.out]),rfl⟩
theorem xq{v:ar}{l:List Int}(b:ua v l w)(f:l.length<=1000000)(y:Int):ao 120 #[v,ab y] w λe w'=>e=.returned (.bool (l.contains y))/\w'=w:=by
 obtain⟨a,c,e,d⟩:=b.cells;rw[e];exact vD _ y _ w (D7 a c l l.length y w f rfl d)
theorem BO(a b:au)(c d:Nat)(len:Nat)(w:ag)(x:len<=1000000)(q:Hid (∀i,i<len->∃g o h j k,(a=some ⟨g,o,none⟩/\b=some ⟨h,j,none⟩)/\ah w g (o+i) (ab k)/\ah w h (j+i) (ab k))):ao 11 #[ae a len c,ae b len d] w λe w'=>e=.returned (.bool true)/\am w w':=by
 go_enter func11,ntmps11;go_wp2_with fail;go_loopw [13] (λi wr=>∃f:Nat,f<=len/\i=ab f/\Hid (am w wr)) (λi _=>len-(intOf i).toNat)
 case atStart=>exact⟨0,aM _,rfl,aA _ _⟩
 case round=>
  obtain⟨f,v,rfl,HB⟩:=hrel;by_cases u:f<len
  ·obtain⟨g,o,h,j,k,⟨rfl,rfl⟩,l,m⟩:=q f u;have s:=iw w ⟨g,o+f,none⟩ l;have t:=iw w ⟨h,j+f,none⟩ m;have n:=aw HB;replace l:=(n _ _ s).trans l;replace m:=(n _ _ t).trans m;clear n;have y:(0:Int)<=(f:Int):=by omega
   have z:(f:Int)<(len:Int):=by omega
   have r:Hid (am w wr.drew):=HB.drew;go_wp2_with fail;go_region_held3 (λp=>ah p g (o+f) (ab k)/\ah p h (j+f) (ab k)) (go_keep) (fail);go_wp2_with fail;go_roundw
   case rel=>exact⟨f+1,by omega,by go_num,r⟩
   case measure=>simp[intOf];omega
  ·obtain rfl:f=len:=by omega
   go_wp2_with fail
   go_ret
   exact⟨rfl,HB⟩
theorem D5{v h:ar}{l:List Int}(q:ua v l w)(r:ua h l w)(u:l.length<=1000000):ao 11 #[v,h] w λe w'=>e=.returned (.bool true)/\am w w':=by
 obtain⟨i,c,m,x⟩:=q.cells;obtain⟨b,j,n,y⟩:=r.cells;rw[m,n];refine BO i b c j l.length w u λa d=>?_;have f:l[a]?=some (l[a]'d):=aN d;obtain⟨g,o,e,s⟩:=x a _ f;obtain⟨p,z,k,t⟩:=y a _ f;exact⟨g,o,p,z,_,⟨e,k⟩,s,t⟩
theorem DE(l:List Int)(L:Nat)(bp:BL)(mo:Option Nat)(x:Int)(w:ag)(R:au->Nat->Nat->ag->Prop)(J:L<=99)(C:Hid (l.length=L))(D:Hid (ao 156 #[.pointer (some ⟨bp.b,bp.o,none⟩),ab x] w λe w'=>∃a c,e=.returned (ae a L c)/\Hid (R a c 0 w')))(f:Hid (∀a c j W,R a c j W->ah W bp.b (bp.o) (.map mo)/\∀(i:Nat)(k:Int),l[i]?=some k->∃g o,a=some ⟨g,o,none⟩/\ah W g (o+i) (ab k)))(HB:Hid (∀a c j W d,R a c j W->am W d->R a c j d))(A:Hid (∀a c j k W,R a c j W->l[j]?=some k->∃d,(∀ty,(Builtin.delete_ #[70,44] ty #[.map mo,.agg #[ab (jn x k).1,ab (jn x k).2]]).run Tryz.prog W=.ok (.tuple #[]) d)/\R a c (j+1) d)):ao 119 #[.pointer (some ⟨bp.b,bp.o,none⟩),ab x] w λe w'=>∃a c,e=.returned (ae a L c)/\Hid (R a c L w'):=by
 go_enter func119,ntmps119;go_wp2_with fail;refine D.mono ?_;rintro e S ⟨a,c,rfl,z⟩;go_wp2_with fail;go_loopw [13] (λi wr=>∃j:Nat,j<=L/\i=ab j/\Hid (R a c j wr)) (λi _=>L-(intOf i).toNat)
 case atStart=>exact⟨0,aM _,rfl,z⟩
 case round=>
  obtain⟨j,K,rfl,h⟩:=hrel;by_cases F:j<L
  ·obtain⟨k,m⟩:∃k,l[j]?=some k:=⟨l[j]'(by rw[C.out];exact F),aN _⟩;obtain⟨H,y⟩:=f.out a c j wr h;obtain⟨g,o,rfl,I⟩:=y j k m;have B:=aq m;clear m y;have N:(0:Int)<=(j:Int):=by omega
   have O:(j:Int)<(L:Int):=by omega
   have s:=aq (λW=>o8 x k W);have q:=aq (λW (E:R (some ⟨g,o,none⟩) c j W)=>A _ _ _ k W E B);obtain⟨⟨P,Q⟩,v⟩:∃G,G=jn x k:=⟨_,rfl⟩;rw[<-v]at s q;clear v;have p:Hid (R (some ⟨g,o,none⟩) c j wr.drew):=HB _ _ _ _ _ h (aA _ _).drew;have d0:=(f _ c j _ p).1;go_wp2_with fail
   go_region_held3 (λW=>ah W bp.b (bp.o) (.map mo)) (first|(go_keep;done)|exact(f _ _ _ _ n).1|exact(f _ _ _ _ r).1) ((first
    | (go_at_call 157;refine(s _).mono ?_;rintro e T ⟨rfl,t⟩;have n:=aq (HB _ _ _ _ _ p t);obtain⟨U,M,u⟩:=q _ n;have r:=aq u;clear t u)))
   go_wp2_with fail;go_roundw
   case rel=>exact⟨j+1,by omega,by go_num,r⟩
   case measure=>simp[intOf];omega
  ·obtain rfl:j=L:=by omega
   go_wp2_with fail
   go_ret
   exact⟨a,c,rfl,h⟩
variable {base n:Nat} {bp:BL} {mo:Option Nat} {g:Int×Int->Bool} {w:ag}
theorem eY.drop(c:eY base bp mo n g w){k:Int×Int}(h:I2 k)(f:mo≠none):∃w2,(∀ty,(Builtin.delete_ #[70,44] ty #[.map mo,pk k]).run Tryz.prog w=.ok (.tuple #[]) w2)/\eY base bp mo n (fF g k false) w2/\bB (λb=>mo=some b) w w2/\w2.heap.size=w.heap.size:=by
 have i:=λmb (a:mo=some mb)=>(show eY base bp (some mb) n g w from a▸c).ne;rcases c.2.2 with⟨a,_⟩|⟨mb,rfl,l⟩
 ·exact absurd a f
 ·obtain⟨w2,j,e,d,m⟩:=l.drop h 0;refine⟨w2,λty=>j,⟨c.1,c.2.1.kept (d.block bp.b (c.lt bp.b (aj rfl)).2 (i mb rfl)),ak ⟨mb,rfl,e⟩⟩,d.mono λb _ a=>by rw[a],m⟩
theorem eY.some(c:eY base bp mo n g w){k:Int×Int}(b:g k=true):mo≠none:=by
 rcases c.2.2 with⟨_,a⟩|⟨mb,a,_⟩
 ·rw[a]at b;cases b
 ·rw[a];simp
theorem sO(p:eY base bp mo n g w)(y:AY g){x:Int}(A:dI x):ao 119 #[.pointer (some ⟨bp.b,bp.o,none⟩),ab x] w λe w'=>∃v,e=.returned v/\Hid (ja w.heap.size v (ri g x) w'/\eY base bp mo n (wo g [x]) w'/\bB (λb=>mo=some b) w w'):=by
 have G:∀b,mo=some b->b<w.heap.size:=λb e=>(p.lt b (ak e)).2;have D:∀(d:au)(c h:Nat)(k:Int)(a:ag),(ja w.heap.size (.slice d (ri g x).length c) (ri g x) a/\eY base bp mo n (ud g x ((ri g x).take h)) a/\bB (λb=>mo=some b) w a)->(ri g x)[h]?=some k->∃m,(∀ty,(Builtin.delete_ #[70,44] ty #[.map mo,.agg #[ab (jn x k).1,ab (jn x k).2]]).run Tryz.prog a=.ok (.tuple #[]) m)/\(ja w.heap.size (.slice d (ri g x).length c) (ri g x) m/\eY base bp mo n (ud g x ((ri g x).take (h+1))) m/\bB (λb=>mo=some b) w m):=by
  rintro d c h k a ⟨j,f,s⟩ l;have F:=jE.1 (aL l);have B:I2 (jn x k):=Ak A (by unfold dI;omega);have E:ud g x ((ri g x).take h) (jn x k)=true:=by
   refine Bq.2 ⟨F.2,λP I e=>?_⟩;rcases NK.1 e with⟨_,e⟩|⟨t,u⟩
   ·exact tO (pr g x) l (e▸I)
   ·exact absurd (aL l) (by rw[u];exact Ce y x)
  obtain⟨K,H,i,z,O⟩:=f.drop B (f.some E);refine⟨K,H,bw j z λb i e=>?_,?_,bB.trans s z λb _ e=>e⟩
  ·have:=(j.lt b i).1;have:=G b e;omega
  ·rw[dA,l];rw[show (some k).toList=[k]from rfl,GW];exact i
 refine(DE (ri g x) (ri g x).length bp mo x w (λd c h a=>ja w.heap.size (.slice d (ri g x).length c) (ri g x) a/\eY base bp mo n (ud g x ((ri g x).take h)) a/\bB (λb=>mo=some b) w a) (we g x) rfl ?_ ?_ ?_ D).mono ?_
 ·refine(MQ p A).mono ?_;rintro e w' ⟨v,rfl,q⟩;obtain⟨d,c,e,_⟩:=q.out.1.row;subst e;exact⟨d,c,rfl,q.1,p.later q.2,aR q.2 _⟩
 ·rintro d c h a ⟨j,f,_⟩;refine⟨f.cell.1,λJ k l=>?_⟩;obtain⟨L,M,e,C⟩:=j.row.cells;injection e with t u N;subst t;exact C J k l
 ·rintro d c h a m ⟨j,f,s⟩ i;exact⟨j.later i,f.later i,bB.trans s (aR i λ_=>False) λ_ _ p=>p.elim⟩
 ·rintro e w' ⟨d,c,rfl,r⟩;refine⟨_,rfl,r.1,?_,r.2.2⟩;have f:=r.2.1;rw[bA (av _),M2 y]at f;exact f
def gg(g:Int×Int->Bool)(x:Int)(i:Nat)(l:List Int)(j:Nat):List Int:=du g x i++Ad (du g x i) (l.take j)
theorem qU{g:Int×Int->Bool}{x:Int}{i:Nat}{l:List Int}(b:l.Nodup){j:Nat}{y:Int}(a:l[j]?=some y):gg g x i l (j+1)=gg g x i l j++if (gg g x i l j).contains y then []else [y]:=by
 unfold gg;rw[dA,a];rw[show (some y).toList=[y]from rfl,Ih _ _ _ (tO b a),kX]
theorem yV{g:Int×Int->Bool}{x:Int}{i:Nat}{y:Int}(a:(du g x i)[i]?=some y):gg g x i (ri (wo g (x::(du g x i).take i)) y) (ri (wo g (x::(du g x i).take i)) y).length=du g x (i+1):=by
 rw[du,a];unfold gg;rw[bA (av _)]
theorem L5{g:Int×Int->Bool}(b:AY g){x:Int}{i:Nat}{y:Int}(c:(du g x i)[i]?=some y)(j:Nat):(gg g x i (ri (wo g (x::(du g x i).take i)) y) j).length<=99:=by
 have a:=(jr b x (i+1)).le;rw[<-yV c]at a;refine aF ?_ a;unfold gg;rw[bt,bt];refine Nat.add_le_add_left ?_ _;rw[bA (av _)];exact(List.Sublist.filter _ (List.take_sublist j _)).length_le
theorem Ob{g:Int×Int->Bool}{x:Int}{i:Nat}{y:Int}(a:(du g x i)[i]?=some y):wo (wo g (x::(du g x i).take i)) [y]=wo g (x::(du g x (i+1)).take (i+1)):=by
 rw[Qm];have b:=(aY.1 a).1;rw[du,a];simp only;rw[iR (by omega),dA,a];rfl
variable {base n:Nat} {bp:BL} {mo:Option Nat} {g:Int×Int->Bool} {w:ag}
def OH(base:Nat)(bp:BL)(mo:Option Nat)(n:Nat)(g:Int×Int->Bool)(x:Int)(j:Nat)(a:au)(L c:Nat)(w W:ag):Prop:=
 (du g x j).length=L/\ja w.heap.size (ae a L c) (du g x j) W/\eY base bp mo n (wo g (x::(du g x j).take j)) W/\bB (λb=>mo=some b) w W
def ON(base:Nat)(bp:BL)(mo:Option Nat)(n:Nat)(g:Int×Int->Bool)(x:Int)(j:Nat)(l:List Int)(d:au)(e:Nat)(q:Nat)(a:au)(L c:Nat)(w W:ag):Prop:=
 (gg g x j l q).length=L/\ja w.heap.size (ae a L c) (gg g x j l q) W/\ja w.heap.size (ae d l.length e) l W/\(∀b,(Value.slice a L c).ownBlock=some b->(Value.slice d l.length e).ownBlock≠some b)/\eY base bp mo n (wo g (x::(du g x (j+1)).take (j+1))) W/\bB (λb=>mo=some b) w W
theorem tT{v:ar}{a:au}{L c:Nat}{l:List Int}(b:ua v l w)(e:v=ae a L c)(i:Nat)(k:Int)(h:l[i]?=some k):∃g o,a=some ⟨g,o,none⟩/\ah w g (o+i) (ab k):=by
 obtain⟨j,m,d,b⟩:=b.cells;rw[e]at d;injection d with f n p;subst f;exact b i k h
theorem ON.more{x:Int}{j:Nat}{l:List Int}{v:au}{z q:Nat}{a:au}{L c:Nat}{W:ag}(B:ON base bp mo n g x j l v z q a L c w W)(I:l.Nodup)(M:∀b,MN bp mo b->b<w.heap.size){y:Int}(N:l[q]?=some y)(J:(gg g x j l q).contains y=false){o:Obj}{f m:Nat}{h:ag}(K:h.ownsRow w.heap.size 3 1 (ae (some ⟨f,0,none⟩) (L+1) m) (L+1) (jY (gg g x j l q)++ [ab y]))(H:(W.alloc o).grownBy h (Value.slice a L c).ownBlock)(G:(Value.slice a L c).ownBlock=some f\/f=(W.alloc o).heap.size):ON base bp mo n g x j l v z (q+1) (some ⟨f,0,none⟩) (L+1) m w h:=by
 obtain⟨p,C,r,s,D,E⟩:=B;have d:gg g x j l (q+1)=gg g x j l q++ [y]:=by
  rw[qU I N,J];rfl
 have F:am W (W.alloc o):=aS _ _;have k:bB (λb=>(Value.slice a L c).ownBlock=some b) W h:=bB.trans (aR F _) (eH H) λb _ d=>d;have u:∀b,(Value.slice a L c).ownBlock=some b->w.heap.size<=b:=λb e=>(C.lt b e).1;refine⟨by rw[d,bt,p];rfl,?_,bw r k λb e d=>s b d e,?_,D.kee k λb e d=>?_,bB.trans E k λb e d=>?_⟩
 ·unfold ja;rw[d,mf,bt,p];exact K
 ·intro b e t;have A:f=b:=az e;subst A;rcases G with i|i
  ·exact s _ i t
  ·have:=(r.lt _ t).2;simp at i;omega
 ·have:=M b e;have:=u b d;omega
 ·have:=u b d;omega
theorem GH(base:Nat)(bp:BL)(mo:Option Nat)(n:Nat)(g:Int×Int->Bool)(x:Int)(w:ag)(u:Hid (AY g))(Z:Hid (∀b,MN bp mo b->b<w.heap.size))(X:Hid (ao 119 #[.pointer (some ⟨bp.b,bp.o,none⟩),ab x] w λe w'=>∃a L c,e=.returned (ae a L c)/\Hid (OH base bp mo n g x 0 a L c w w'))):ao 81 #[.pointer (some ⟨bp.b,bp.o,none⟩),ab x,.bool false] w λe w'=>∃v,e=.returned v/\Hid (ja w.heap.size v (tV g x) w'/\eY base bp mo n (wo g (x::tV g x)) w'/\bB (λb=>mo=some b) w w'):=by
 obtain⟨B,am,ap,ar,av⟩:=bU FW;have F:Hid (Tryz.prog.info? 3=some B/\B.zero=some (ab 0)/\B.size=1/\B.bytes=8):=⟨am,ap,ar,av⟩;clear am ap ar av;go_enter func81,ntmps81;go_wp2_with fail;refine X.mono ?_;rintro e bb ⟨a,L,c,rfl,M⟩;go_wp2_with fail;go_loopw [7,8] (λv q wr=>∃(d:Nat)(a:au)(L c:Nat),v=ae a L c/\q=ab d/\d<=99/\L<=99/\Hid (OH base bp mo n g x d a L c w wr)) (λ_ q _=>100-(intOf q).toNat)
 case atStart=>exact⟨0,a,L,c,rfl,rfl,by omega,by have m:=(jr u x 0).le;have p:=M.1;omega,M⟩
 case round=>
  clear M X;obtain⟨d,a,L,c,rfl,rfl,a4,I,h⟩:=hrel;by_cases aP:d<L
  ·obtain⟨r,J⟩:∃r,(du g x d)[d]?=some r:=⟨(du g x d)[d]'(by rw[h.out.1];exact aP),aN _⟩;obtain⟨af,o,rfl,aG⟩:=tT h.2.1.row rfl d r J;have H:=aq J;have aC:Hid (dI r):=by
    have:=(jr u x d).rng r (aL J);unfold Hid dI;omega
   clear J;have a7:(0:Int)<=(d:Int):=by omega
   have a8:(d:Int)<(L:Int):=by omega
   have Y:=aq (sO h.2.2.1 (u.wo _) aC);go_wp2_with fail;refine Y.mono ?_;rintro e U ⟨aZ,rfl,G⟩;obtain⟨l,z⟩:∃l,l=ri (wo g (x::(du g x d).take d)) r:=⟨_,rfl⟩;rw[<-z]at G;obtain⟨j,k⟩:∃j,j=l.length:=⟨_,rfl⟩;have a3:j<=99:=by
    have:=we (wo g (x::(du g x d).take d)) r;rw[k,z];exact this
   obtain⟨K,C,aV⟩:∃K C,aZ=ae K j C:=by
    obtain⟨aE,aF,e,_⟩:=G.out.1.row;exact⟨aE,aF,by rw[k];exact e⟩
   subst aV;have N:Hid l.Nodup:=by rw[z];exact pr _ _
   have aa:Hid (∀f,(gg g x d l f).length<=99):=by rw[z];exact λf=>L5 u H f
   have aw:Hid (gg g x d l j=du g x (d+1)):=by rw[k,z];exact yV H
   have W:Hid (ON base bp mo n g x d l K C 0 (some ⟨af,o,none⟩) L c w U):=by
    have aW:=Ob H (g:=g) (x:=x);have A:=G.out;have aU:∀b,mo=some b->b<w.heap.size:=λb e=>Z b (ak e);have aQ:bB (λb=>mo=some b) w U:=bB.trans h.2.2.2 A.2.2 λ_ _ e=>e;have ad:gg g x d l 0=du g x d:=by simp[gg,Ad]
    have aT:ja w.heap.size (ae (some ⟨af,o,none⟩) L c) (du g x d) U:=bw h.2.1 A.2.2 λb R e=>by
     have:=(h.2.1.lt b R).1;have:=aU b e;omega
    refine⟨by rw[ad];exact h.1,by rw[ad];exact aT,?_,?_,?_,aQ⟩
    ·rw[<-k];exact sg A.1 h.2.2.2.size
    ·intro b R aj;rw[<-k]at aj;have:=(A.1.lt b aj).1;have:=(h.2.1.lt b R).2;omega
    ·rw[<-aW];exact A.2.1
   replace k:=aq k;clear G h Y aG z;go_wp2_with fail;go_loopw [7,28] (λv q wr=>∃(f:Nat)(a:au)(L c:Nat),v=ae a L c/\q=ab f/\f<=j/\L<=99/\Hid (ON base bp mo n g x d l K C f a L c w wr)) (λ_ q _=>j-(intOf q).toNat)
   case atStart=>exact⟨0,_,L,c,rfl,rfl,aM _,I,W⟩
   case round=>
    clear W;obtain⟨f,a,L,c,rfl,rfl,a6,I,i⟩:=hrel;by_cases aS:f<j
    ·obtain⟨s,T⟩:∃s,l[f]?=some s:=⟨l[f]'(by rw[<-k.out];exact aS),aN _⟩;obtain⟨aI,aX,rfl,a1⟩:=tT i.2.2.1.row rfl f s T;have Q:=aq T;clear T;have a9:(0:Int)<=(f:Int):=by omega
     have ba:(f:Int)<(j:Int):=by omega
     have V:=aq (xq i.2.1.row (by rw[i.out.1];omega) s);obtain⟨t,S⟩:∃t,t=(gg g x d l f).contains s:=⟨_,rfl⟩;rw[<-S]at V;have P:=aq S;clear S;go_wp2_with fail;refine V.mono ?_;rintro e D ⟨rfl,rfl⟩;cases t
     ·have a0:=aq (aa (f+1));have ay:Hid (L+1<=99):=by
       have m:=aa (f+1);have p:=i.1;rw[qU N.out Q.out,<-P.out,bt]at m;simp at m;unfold Hid;omega
      have aB:Hid (w.heap.size<=D.heap.size):=i.2.2.2.2.2.size;have aA:=aq i.2.1;have az:=aq i.1
      go_wp2_with (first
       | (at_builtin;refine wpList_append_lies _ rfl _ _ 25 rfl w.heap.size 3 B _ 1 8 underlying25 F.1 F.2.1 F.2.2.1 F.2.2.2 rfl (by decide) (ae a L c) L (jY (gg g x d l f)) rfl ((show D.ownsRow w.heap.size 3 1 (ae a L c) L (jY (gg g x d l f))from by have y:=aA.out;unfold ja at y;rw[az.out]at y;exact y).alloc _) ⟨D.heap.size,0,none⟩ 1 1 [ab s] rfl rfl (World.news_of_block (cs:= #[ab s]) (t:=3) (fr:=(0,0)) (aD D _)) (by simp[Value.oneCell']) (by decide) (by unfold maxLen;omega) (by omega) (by have:=aB.out;simp;omega) _ rfl ?_;intro a2 aH bc an al ai aR;have O:=aq (i.more N Z Q P.symm an al ai);clear an al ai aR))
      go_roundw
      case rel=>exact⟨f+1,_,L+1,aH,rfl,by go_num,by omega,ay,O⟩
      case measure=>simp[intOf];omega
     ·have O:Hid (ON base bp mo n g x d l (some ⟨aI,aX,none⟩) C (f+1) a L c w D):=by
        have y:=i.out;unfold ON at y ⊢;have e:gg g x d l (f+1)=gg g x d l f:=by
         rw[qU N.out Q.out,<-P.out];simp
        rw[e];exact y
      go_wp2_with fail;go_roundw
      case rel=>exact⟨f+1,_,L,c,rfl,by go_num,by omega,I,O⟩
      case measure=>simp[intOf];omega
    ·obtain rfl:f=j:=by omega
     have E:Hid (OH base bp mo n g x (d+1) a L c w wr):=by
      obtain⟨m,p,_,_,aK,aO⟩:=i;rw[aw.out]at m p;exact⟨m,p,aK,aO⟩
     have ax:Hid (d+1<=99):=by
      have:=(jr u x d).le;have:=(aY.1 H).1;unfold Hid;omega
     go_wp2_with fail;go_roundw
     case rel=>exact⟨d+1,a,L,c,rfl,by go_num,ax,I,E⟩
     case measure=>simp[intOf];omega
  ·have E:Hid (du g x d=tV g x):=Jb u (by rw[h.out.1];omega);have a5:¬(d:Int)<(L:Int):=by omega
   go_wp2_with fail
   go_ret
   obtain⟨m,p,ah,aJ⟩:=h;rw[bA (by omega),E.out]at ah;rw[E.out]at p;exact⟨_,rfl,p,ah,aJ⟩
theorem A9(bp:BL)(x:Int)(w:ag)(R:ag->Prop)(c:Hid (ao 119 #[.pointer (some ⟨bp.b,bp.o,none⟩),ab x] w λe w'=>∃v,e=.returned v/\Hid (R w'))):ao 81 #[.pointer (some ⟨bp.b,bp.o,none⟩),ab x,.bool true] w λe w'=>e=.returned (ae none 0 0)/\R w':=by
 go_enter func81,ntmps81;go_wp2_with fail;refine c.mono ?_;rintro e d ⟨v,rfl,a⟩;go_wp2_with fail
 go_ret
 exact⟨rfl,a⟩
def pX(g:Int×Int->Bool)(x:Int)(a:Bool):List Int:=if a then []else tV g x
theorem JR(f:eY base bp mo n g w)(h:AY g){x:Int}(i:dI x)(d:Bool):ao 81 #[.pointer (some ⟨bp.b,bp.o,none⟩),ab x,.bool d] w λe w'=>∃v,e=.returned v/\Hid (ja w.heap.size v (pX g x d) w'/\eY base bp mo n (wo g (x::pX g x d)) w'/\bB (λb=>mo=some b) w w'):=by
 cases d
 ·rw[show pX g x false=tV g x from if_neg (by decide)];refine GH base bp mo n g x w h (λb m=>(f.lt b m).2) ?_;refine(sO f h i).mono ?_;rintro e w' ⟨v,rfl,a⟩;obtain⟨j,c,e,_⟩:=a.out.1.row;subst e;exact⟨j,_,c,rfl,rfl,a.1,a.2.1,a.2.2⟩
 ·refine(A9 bp x w (λw'=>eY base bp mo n (wo g [x]) w'/\bB (λb=>mo=some b) w w') ?_).mono ?_
  ·refine(sO f h i).mono ?_;rintro e w' ⟨v,rfl,a⟩;exact⟨v,rfl,a.2⟩
  ·rw[show pX g x true=[]from if_pos rfl];rintro e w' ⟨rfl,k,l⟩;exact⟨_,rfl,ja.nil _ _,k,l⟩
def zP:ap:=⟨#[115,112,97,119,110]⟩
def tF:ap:=⟨#[101,110,100]⟩
def lE:ap:=⟨#[116,97,107,101]⟩
def dQ:ap:=⟨#[115,101,110,100]⟩
def jX:ap:=⟨#[108,111,115,116]⟩
def sE:Tc:=((0,0,⟨#[]⟩),(none,0),[])
structure Sy where
 last:Int
 ps:List (Int×ap×Tc×List Tc)
 ways:Int×Int->List Tc
 bonds:Int×Int->Bool
 evs:List (ap×Int×Int×Tc)
def Sy.get(s:Sy)(k:Int):Option (ap×Tc×List Tc):=(s.ps.find? λp=>p.1==k).map (·.2)
def Sy.put(s:Sy)(k:Int)(v:ap×Tc×List Tc):Sy:={s with ps:=s.ps.map λp=>if p.1=k then (k,v)else p}
def Sy.tell(s:Sy)(wt:ap)(a b:Int)(t:Tc):Sy:={s with evs:=s.evs++ [(wt,a,b,t)]}
def Sy.add(s:Sy)(a:Int)(nm:ap)(cs:Tc):Sy:=Sy.tell {s with last:=s.last+1,ps:=s.ps++ [(s.last+1,nm,cs,[])]} zP a (s.last+1) cs
def Sy.drop(s:Sy)(x how:Int):Sy:=Sy.tell {s with ps:=s.ps.eraseP λp=>p.1==x} tF x how sE
def Sy.fin(s:Sy)(x how:Int):Sy:=(pX s.bonds x (how==1)).foldl (λs y=>s.drop y 4) {s.drop x how with bonds:=wo s.bonds (x::pX s.bonds x (how==1))}
def Sy.deliver(s:Sy)(room a b:Int)(t:Tc):Sy:=match s.get b with
 | none=>s
 | some (nm,cs,cms)=>if kB 13 t room cs cms=2 then s.tell jX a b t else if kB 13 t room cs cms=6 then s.fin b 3 else if kB 13 t room cs cms=0 then s.put b (nm,cs,cms++ [t])else s
def Sy.send(s:Sy)(a b:Int)(t:Tc):Sy:=if mn 12 a b t (s.ways (a,b)).length=0 then Sy.tell {s with ways:=fF s.ways (a,b) (s.ways (a,b)++ [t])} dQ a b t else s.tell jX a b t
def Sy.link(s:Sy)(a b:Int):Sy:=if (s.get b).isSome then {s with bonds:=if vQ a b=0 then fF s.bonds (jn a b) true else s.bonds}else s
def Sy.may(s:Sy)(n:Nat):Bool:=decide ((s.ps.length:Int)+n<=12) && decide (s.last+n<=90)
section
variable (n:Nat) (prog:List (Bh (n+1))) (room:Int)
def lL(nm:ap):Bool:=(gD (n+1) nm prog).isSome
def Sy.made(s:Sy)(l:List (Int×ap×Tc)):Bool:=s.may l.length && l.all λx=>lL n prog x.2.1 && gw 13 x.2.2 room x.2.1==0
def Sy.follow(s:Sy)(a:Int)(b:Tk):Sy:=
 let s:=b.spawns.foldl (λs x=>s.add a x.2.1 x.2.2) s
 let s:=b.sends.foldl (λs x=>s.send a x.1 x.2) s
 let s:=b.links.foldl (λs x=>s.link a x) s
 if b.fate=1 then s.fin a 1 else s
def Sy.run(s:Sy)(a:Int):Sy×Int:=match s.get a with
 | none=>(s,4)
 | some (nm,cs,cms)=>if sr n room prog nm a (s.last+1) cs cms=0 then match nW room prog nm a (s.last+1) cs cms with
     | none=>(s,0)
     | some b=>
      let s:=(s.put a (nm,b.state,b.mail)).tell lE a 0 b.message
      (if b.fate=2\/b.fate=3 then s.fin a b.fate else if s.made n prog room b.spawns=false then s.fin a 2 else s.follow a b,0)
  else (s,sr n room prog nm a (s.last+1) cs cms)
def Sy.arrive(s:Sy)(a b:Int):Sy×Int:=match s.ways (a,b)with
 | []=>(s,4)
 | t::l=>
  let s:={s with ways:=fF s.ways (a,b) l}
  (if (s.get b).isSome then s.deliver room a b t else s.tell jX a b t,0)
def Sy.inject(s:Sy)(a:Int)(k:Nat)(x:Tm k):Sy×Int:=if (s.get a).isSome=false then (s,4)else if bG k x≠0 then (s,bG k x)else if aT k x=false then (s,5)else (s.deliver room 0 a (cn k x),0)
def Sy.do(s:Sy)(c a b:Int)(k:Nat)(x:Tm k):Sy×Int:=if c=1 then s.run n prog room a else if c=2 then s.arrive room a b else if c=3 then s.inject room a k x else (s,1)
def Sy.start(s:Sy)(nm:ap)(k:Nat)(x:Tm k):Sy×Int:=if s.may 1=false then (s,2)else if lL n prog nm=false then (s,4)else if gw k x room nm≠0 then (s,gw k x room nm)else (s.add 0 nm (cn k x),0)
end
def Sy.more(s a:Sy):Prop:=∃l,a.evs=s.evs++l
theorem Sy.more.refl(s:Sy):s.more s:=⟨[],by simp⟩
theorem Sy.more.trans{s t b:Sy}(a:s.more t)(k:t.more b):s.more b:=by
 obtain⟨l,a⟩:=a;obtain⟨c,k⟩:=k;exact⟨l++c,by rw[k,a,kX]⟩
theorem kN{a:Type}(f:Sy->a->Sy)(b:∀(s:Sy)(x:a),s.more (f s x)):(l:List a)->(s:Sy)->s.more (l.foldl f s)
 | [],s=>Sy.more.refl s
 | x::l,s=>(b s x).trans (kN f b l (f s x))
theorem yg(s:Sy)(wt:ap)(a b:Int)(t:Tc):s.more (s.tell wt a b t):=⟨_,rfl⟩
theorem rT(s:Sy)(x how:Int):s.more (s.fin x how):=by
 have a:s.more {s.drop x how with bonds:=wo s.bonds (x::pX s.bonds x (how==1))}:=⟨_,rfl⟩;exact a.trans (kN _ (λs b=>⟨_,rfl⟩) _ _)
theorem rS(s:Sy)(room a b:Int)(t:Tc):s.more (s.deliver room a b t):=by
 unfold Sy.deliver;split
 ·exact Sy.more.refl s
 ·split
  ·exact yg _ _ _ _ _
  ·split
   ·exact rT _ _ _
   ·split
    ·exact⟨[],by simp[Sy.put]⟩
    ·exact Sy.more.refl s
theorem If(s:Sy)(a b:Int)(t:Tc):s.more (s.send a b t):=by
 unfold Sy.send;split
 ·exact⟨_,rfl⟩
 ·exact⟨_,rfl⟩
theorem Ie(s:Sy)(a b:Int):s.more (s.link a b):=by
 unfold Sy.link;split
 ·exact⟨[],by simp⟩
 ·exact Sy.more.refl s
theorem B7(s:Sy)(a:Int)(b:Tk):s.more (s.follow a b):=by
 have d:=kN (λ(s:Sy)(x:Int×ap×Tc)=>s.add a x.2.1 x.2.2) (λs x=>⟨_,rfl⟩) b.spawns s;have e:=d.trans (kN (λ(s:Sy)(x:Int×Tc)=>s.send a x.1 x.2) (λs x=>If s a x.1 x.2) b.sends _);have c:=e.trans (kN (λ(s:Sy)(x:Int)=>s.link a x) (λs x=>Ie s a x) b.links _);unfold Sy.follow;simp only;split
 ·exact c.trans (rT _ _ _)
 ·exact c
theorem Nv(n:Nat)(prog:List (Bh (n+1)))(room:Int)(s:Sy)(f a b:Int)(k:Nat)(x:Tm k):s.more (s.do n prog room f a b k x).1:=by
 unfold Sy.do;split
 ·unfold Sy.run;split
  ·exact Sy.more.refl s
  ·split
   ·split
    ·exact Sy.more.refl s
    ·have c:∀d (e:ap×Tc×List Tc) t,s.more ((s.put a e).tell d a 0 t):=λd e t=>⟨_,rfl⟩;simp only;split
     ·exact(c _ _ _).trans (rT _ _ _)
     ·split
      ·exact(c _ _ _).trans (rT _ _ _)
      ·exact(c _ _ _).trans (B7 _ _ _)
   ·exact Sy.more.refl s
 ·split
  ·unfold Sy.arrive;split
   ·exact Sy.more.refl s
   ·rename_i t l _;have c:s.more {s with ways:=fF s.ways (a,b) l}:=⟨[],by simp⟩;simp only;split
    ·exact c.trans (rS _ _ _ _ _)
    ·exact c.trans (yg _ _ _ _ _)
  ·split
   ·unfold Sy.inject;split
    ·exact Sy.more.refl s
    ·split
     ·exact Sy.more.refl s
     ·split
      ·exact Sy.more.refl s
      ·exact rS _ _ _ _ _
   ·exact Sy.more.refl s
theorem fh{P:Sy->Prop}{a:Type}(f:Sy->a->Sy):(l:List a)->(∀s,∀x∈l,P s->P (f s x))->{s:Sy}->P s->P (l.foldl f s)
 | [],_,_,h=>h
 | x::l,hf,s,h=>fh f l (λs y b=>hf s y (bT _ b)) (hf s x (by simp) h)
theorem Pb{s:Sy}{k:Int}{v:ap×Tc×List Tc}(a:s.get k=some v):∃q∈s.ps,q.2=v:=by
 unfold Sy.get at a;obtain⟨q,b,rfl⟩:=cD.1 a;exact⟨q,List.mem_of_find?_eq_some b,rfl⟩
def p8(s:Sy):Prop:=∀q∈s.ps,q.2.1.size<=8
theorem p8.get{s:Sy}(b:p8 s){k:Int}{nm:ap}{r:Tc×List Tc}(c:s.get k=some (nm,r)):nm.size<=8:=by
 obtain⟨e,d,a⟩:=Pb c;have:=b e d;rw[a]at this;exact this
theorem p8.add{s:Sy}(c:p8 s)(a:Int){nm:ap}(d:nm.size<=8)(cs:Tc):p8 (s.add a nm cs):=λq e=>by
 rcases cY.1 e with b|b
 ·exact c q b
 ·rw[dx.1 b];exact d
theorem p8.drop{s:Sy}(a:p8 s)(x how:Int):p8 (s.drop x how):=λq b=>a q (List.mem_of_mem_eraseP b)
theorem p8.fin{s:Sy}(a:p8 s)(x how:Int):p8 (s.fin x how):=fh (λ(s:Sy)(y:Int)=>s.drop y 4) _ (λ_ y _ k=>k.drop y 4) (a.drop x how:)
theorem p8.put{s:Sy}(a:p8 s)(k:Int){v:ap×Tc×List Tc}(d:v.1.size<=8):p8 (s.put k v):=λq b=>by
 obtain⟨r,c,rfl⟩:=cm.1 b;split
 ·exact d
 ·exact a r c
theorem p8.deliver{s:Sy}(c:p8 s)(room a b:Int)(t:Tc):p8 (s.deliver room a b t):=by
 unfold Sy.deliver;split
 ·exact c
 ·split
  ·exact c
  ·split
   ·exact c.fin _ _
   ·split
    ·exact c.put _ (c.get ‹_›)
    ·exact c
theorem ym{k:Nat}{x:Tm k}{room:Int}{nm:ap}(a:gw k x room nm=0):nm.size<=8:=by
 unfold gw at a;split at a
 ·cases a
 ·rename_i b;simp only[ei,rh,Bool.not_eq_false,aK,cr]at b;omega
theorem p8.follow{s:Sy}(d:p8 s)(a:Int)(b:Tk)(e:∀x∈b.spawns,x.2.1.size<=8):p8 (s.follow a b):=by
 have c:=fh (P:=p8) (λ(s:Sy)(x:Int)=>s.link a x) b.links (λs x _ k=>by unfold Sy.link;split<;>exact k) (fh (P:=p8) (λ(s:Sy)(x:Int×Tc)=>s.send a x.1 x.2) b.sends (λs x _ k=>by unfold Sy.send;split<;>exact k) (fh (P:=p8) (λ(s:Sy)(x:Int×ap×Tc)=>s.add a x.2.1 x.2.2) b.spawns (λ_ x f k=>k.add a (e x f) x.2.2) d));unfold Sy.follow;simp only;split
 ·exact c.fin a 1
 ·exact c
theorem p8.do{n:Nat}{prog:List (Bh (n+1))}{room:Int}{s:Sy}(c:p8 s)(j a b:Int)(k:Nat)(x:Tm k):p8 (s.do n prog room j a b k x).1:=by
 unfold Sy.do;split
 ·unfold Sy.run;split
  ·exact c
  ·rename_i g o m h;split
   ·split
    ·exact c
    ·rename_i d _;have e:p8 ((s.put a (g,d.state,d.mail)).tell lE a 0 d.message):=c.put a (v:=(g,d.state,d.mail)) (c.get h);simp only;split
     ·exact e.fin _ _
     ·split
      ·exact e.fin _ _
      ·rename_i f;simp only[Sy.made,aK,Bool.not_eq_false,cG,co]at f;exact e.follow a d λx i=>ym (f.2 x i).2
   ·exact c
 ·split
  ·unfold Sy.arrive;split
   ·exact c
   ·rename_i l _;simp only;split
    ·exact p8.deliver (s:={s with ways:=fF s.ways (a,b) l}) c _ _ _ _
    ·exact c
  ·split
   ·unfold Sy.inject;split
    ·exact c
    ·split
     ·exact c
     ·split
      ·exact c
      ·exact c.deliver _ _ _ _
   ·exact c
theorem p8.start{n:Nat}{prog:List (Bh (n+1))}{room:Int}{s:Sy}(a:p8 s)(nm:ap)(k:Nat)(x:Tm k):p8 (s.start n prog room nm k x).1:=by
 unfold Sy.start;split
 ·exact a
 ·split
  ·exact a
  ·split
   ·exact a
   ·exact a.add 0 (ym (Decidable.not_not.1 ‹_›)) _
section
variable {p:Int} {v:ap×Tc×List Tc} {l0:List (ap×Int×Int×Tc)} {s:Sy}
theorem G3{l:List (Int×ap×Tc×List Tc)}(d:(l.map (·.1)).Nodup)(x q:Int):((l.eraseP λr=>r.1==x).find? λr=>r.1==q)=if q=x then none else l.find? λr=>r.1==q:=by
 induction l with
 | nil=>simp
 | cons r l ih=>
  obtain⟨f,g⟩:=lh.1 (by simpa using d:(r.1::l.map (·.1)).Nodup);rw[List.eraseP_cons];cases hx:r.1==x
  ·simp only[cond_false,fG];cases b:r.1==q
   ·exact ih g
   ·simp only[co]at b;have:¬q=x:=λa=>by rw[b,a]at hx;simp at hx
    rw[if_neg this]
  ·simp only[co]at hx;simp only[cond_true,fG];by_cases a:q=x
   ·rw[if_pos a,kZ];intro h e c;simp only[co]at c;exact f (cm.2 ⟨h,e,by rw[c,a,hx]⟩)
   ·have b:(r.1==q)=false:=by simp;omega
    rw[if_neg a,b]
end
def tj(k:Int×Int)(l:List (ap×Int×Int×Tc)):List Tc:=l.filterMap λe=>if e.1=dQ/\(e.2.1,e.2.2.1)=k then some e.2.2.2 else none
theorem AD(k:Int×Int)(wt:ap)(a b:Int)(t:Tc):tj k [(wt,a,b,t)]=if wt=dQ/\(a,b)=k then [t]else []:=by
 unfold tj;by_cases c:wt=dQ/\(a,b)=k
 ·simp[c]
 ·simp[c]
theorem uK(k:Int×Int)(l r:List (ap×Int×Int×Tc)):tj k (l++r)=tj k l++tj k r:=List.filterMap_append
theorem LK{k:Int×Int}{l:List (ap×Int×Int×Tc)}{wt:ap}{a b:Int}{t:Tc}(c:wt≠dQ):tj k (l++ [(wt,a,b,t)])=tj k l:=by
 rw[uK,AD,if_neg λd=>c d.1,dL]
def dW(g:Int×Int->Nat)(s:Sy):Prop:=(∀k,g k<=(tj k s.evs).length/\s.ways k=(tj k s.evs).drop (g k))/\∀e∈s.evs,e.1=dQ->I2 (e.2.1,e.2.2.1)
section
variable {g:Int×Int->Nat} {s:Sy}
theorem dW.as{a:Sy}(d:dW g s)(b:a.ways=s.ways)(c:a.evs=s.evs):dW g a:=by
 unfold dW at*;rw[b,c];exact d
theorem dW.tell(d:dW g s){wt:ap}(f:wt≠dQ)(a b:Int)(t:Tc):dW g (s.tell wt a b t):=⟨λk=>by
 rw[show (s.tell wt a b t).evs=s.evs++ [(wt,a,b,t)]from rfl,LK f];exact d.1 k,λe h c=>by
 rcases cY.1 h with y|y
 ·exact d.2 e y c
 ·rw[dx.1 y]at c
  exact absurd c f⟩
theorem qC:zP≠dQ/\lE≠dQ/\tF≠dQ/\jX≠dQ:=by decide
theorem dW.add(b:dW g s)(a:Int)(nm:ap)(cs:Tc):dW g (s.add a nm cs):=dW.tell (s:={s with last:=s.last+1,ps:=s.ps++ [(s.last+1,nm,cs,[])]}) b qC.1 _ _ _
theorem dW.drop(a:dW g s)(x how:Int):dW g (s.drop x how):=dW.tell (s:={s with ps:=s.ps.eraseP λp=>p.1==x}) a qC.2.2.1 _ _ _
theorem dW.fin(b:dW g s)(x how:Int):dW g (s.fin x how):=
 fh (P:=dW g) (λ(s:Sy)(a:Int)=>s.drop a 4) _ (λ_ a _ k=>k.drop a 4) (s:={s.drop x how with bonds:=wo s.bonds (x::pX s.bonds x (how==1))}) (b.drop x how)
theorem dW.deliver(c:dW g s)(room a b:Int)(t:Tc):dW g (s.deliver room a b t):=by
 unfold Sy.deliver;split
 ·exact c
 ·split
  ·exact c.tell qC.2.2.2 _ _ _
  ·split
   ·exact c.fin _ _
   ·split
    ·exact c.as rfl rfl
    ·exact c
theorem IX{N L:Nat}{a b:Int}{x:Tm (N+1)}(c:mn N a b x L=0):I2 (a,b):=by
 unfold mn gL at c;unfold I2 dI;split at c
 ·cases c
 ·rename_i d;simp only[Lm,pF,not_or,Bool.not_eq_false,cr]at d;simp only;omega
theorem dW.send(d:dW g s)(a b:Int)(t:Tc):dW g (s.send a b t):=by
 unfold Sy.send;split
 ·rename_i l;refine⟨λk=>?_,λc m h=>?_⟩;rotate_left
  ·rcases cY.1 m with f|f
   ·exact d.2 c f h
   ·rw[dx.1 f];exact IX l
  have c:tj k (Sy.tell {s with ways:=fF s.ways (a,b) (s.ways (a,b)++ [t])} dQ a b t).evs=tj k s.evs++if (a,b)=k then [t]else []:=by
   rw[show (Sy.tell {s with ways:=fF s.ways (a,b) (s.ways (a,b)++ [t])} dQ a b t).evs=s.evs++ [(dQ,a,b,t)]from rfl,uK,AD];simp
  obtain⟨i,j⟩:=d.1 k;rw[c,show (Sy.tell {s with ways:=fF s.ways (a,b) (s.ways (a,b)++ [t])} dQ a b t).ways=fF s.ways (a,b) (s.ways (a,b)++ [t])from rfl];by_cases e:(a,b)=k
  ·subst e;rw[if_pos rfl,cw,j,ns i,bt];exact⟨by omega,rfl⟩
  ·rw[if_neg e,bH _ _ λh=>e h.symm,dL];exact⟨i,j⟩
 ·exact d.tell qC.2.2.2 _ _ _
theorem dW.link(c:dW g s)(a b:Int):dW g (s.link a b):=by
 unfold Sy.link;split
 ·exact c.as rfl rfl
 ·exact c
theorem dW.follow(d:dW g s)(a:Int)(b:Tk):dW g (s.follow a b):=by
 have e:=fh (P:=dW g) (λ(s:Sy)(x:Int×ap×Tc)=>s.add a x.2.1 x.2.2) b.spawns (λ_ x _ k=>k.add _ _ _) d;have f:=fh (P:=dW g) (λ(s:Sy)(x:Int×Tc)=>s.send a x.1 x.2) b.sends (λ_ x _ k=>k.send _ _ _) e;have c:=fh (P:=dW g) (λ(s:Sy)(x:Int)=>s.link a x) b.links (λ_ x _ k=>k.link _ _) f;unfold Sy.follow;simp only;split
 ·exact c.fin _ _
 ·exact c
theorem dW.do(c:dW g s){n:Nat}{prog:List (Bh (n+1))}{room i a b:Int}(l:i≠2)(k:Nat)(x:Tm k):dW g (s.do n prog room i a b k x).1:=by
 unfold Sy.do;rw[if_neg l];split
 ·unfold Sy.run;split
  ·exact c
  ·split
   ·split
    ·exact c
    ·have j:∀f d t,dW g ((s.put a d).tell f a 0 t)\/f=dQ:=λf d t=>by
       by_cases e:f=dQ
       ·exact ak e
       ·exact aj (dW.tell (c.as rfl rfl) e _ _ _)
     have h:∀d t,dW g ((s.put a d).tell lE a 0 t):=λd t=>(j lE d t).elim id λe=>absurd e qC.2.1;simp only;split
     ·exact(h _ _).fin _ _
     ·split
      ·exact(h _ _).fin _ _
      ·exact(h _ _).follow _ _
   ·exact c
 ·split
  ·unfold Sy.inject;split
   ·exact c
   ·split
    ·exact c
    ·split
     ·exact c
     ·exact c.deliver _ _ _ _
  ·exact c
theorem xp{q:Int}(a:s.get q=none)(y how:Int):(s.drop y how).get q=none:=by
 unfold Sy.get at*;rw[Option.map_eq_none_iff,kZ]at*;intro c b;exact a c (List.mem_of_mem_eraseP b)
theorem M9(d:(s.ps.map (·.1)).Nodup)(x how:Int):(s.fin x how).get x=none/\∃l,(s.fin x how).evs=s.evs++(tF,x,how,sE)::l:=by
 constructor
 ·refine fh (P:=λs=>s.get x=none) (λ(s:Sy)(a:Int)=>s.drop a 4) _ (λ_ a _ k=>xp k a 4) (s:={s.drop x how with bonds:=wo s.bonds (x::pX s.bonds x (how==1))}) ?_;show ((s.ps.eraseP λb=>b.1==x).find? λb=>b.1==x).map (·.2)=none;rw[G3 d,if_pos rfl];rfl
 ·obtain⟨l,c⟩:=kN (λ(s:Sy)(a:Int)=>s.drop a 4) (λ_ _=>⟨_,rfl⟩) (pX s.bonds x (how==1)) {s.drop x how with bonds:=wo s.bonds (x::pX s.bonds x (how==1))};refine⟨l,c.trans ?_⟩;show s.evs++ [(tF,x,how,sE)]++l=_;simp
def Mz(s c:Sy)(a b:Int)(t:Tc):Prop:=
 (c.evs=s.evs++ [(jX,a,b,t)]/\c.get b=s.get b)\/(∃f e d,s.get b=some (f,e,d)/\c.get b=some (f,e,d++ [t]))\/(∃g,s.get b=some g)/\c.get b=none/\∃l,c.evs=s.evs++(tF,b,3,sE)::l
theorem dW.arrive(m:dW g s)(G:(s.ps.map (·.1)).Nodup)(I:∀k,∀t∈s.ways k,bG 13 t=0/\aT 13 t=true){n:Nat}{prog:List (Bh (n+1))}{room a b:Int}{k:Nat}{x:Tm k}(j:(s.do n prog room 2 a b k x).2=0):∃t,(tj (a,b) s.evs)[g (a,b)]?=some t/\dW (fF g (a,b) (g (a,b)+1)) (s.do n prog room 2 a b k x).1/\Mz s (s.do n prog room 2 a b k x).1 a b t:=by
 obtain⟨K,o⟩:=m.1 (a,b);have F:s.do n prog room 2 a b k x=s.arrive room a b:=by
  unfold Sy.do;rw[if_neg (by decide),if_pos rfl]
 rw[F]at j ⊢;unfold Sy.arrive at j ⊢;cases d:s.ways (a,b)with
 | nil=>
  rw[d]at j;cases j
 | cons t l=>
  rw[d]at o;obtain⟨t1,t2⟩:=I (a,b) t (by rw[d];simp);have y:(tj (a,b) s.evs)[g (a,b)]?=some t:=by
   have:=congrArg (λl=>l[0]?) o;simpa using this.symm
  have u:dW (fF g (a,b) (g (a,b)+1)) {s with ways:=fF s.ways (a,b) l}:=⟨λk=>by
   show _<=(tj k s.evs).length/\fF s.ways (a,b) l k=_;by_cases q:k=(a,b)
   ·subst q;rw[cw,cw];have:=aY.1 y;refine⟨by obtain⟨L,_⟩:=this;omega,?_⟩;have E:=congrArg (λl=>l.drop 1) o;simpa [List.drop_drop,Nat.add_comm]using E
   ·rw[bH _ _ q,bH _ _ q]
    exact m.1 k,m.2⟩
  refine⟨t,y,?_⟩;simp only;have p:∀A,Sy.get {s with ways:=fF s.ways (a,b) l} A=s.get A:=λ_=>rfl;cases f:s.get b with
  | none=>
   rw[p,f,if_neg (by simp)];exact⟨u.tell qC.2.2.2 _ _ _,aj ⟨rfl,rfl⟩⟩
  | some i=>
   obtain⟨z,e,c⟩:=i;rw[p,f,if_pos (by simp)];refine⟨u.deliver _ _ _ _,?_⟩;unfold Sy.deliver;rw[p,f];simp only;by_cases d2:kB 13 t room e c=2
   ·rw[if_pos d2];exact aj ⟨rfl,rfl⟩
   rw[if_neg d2];by_cases d6:kB 13 t room e c=6
   ·rw[if_pos d6];have v:=M9 (s:={s with ways:=fF s.ways (a,b) l}) G b 3;exact ak (ak ⟨⟨_,f⟩,v.1,v.2⟩)
   rw[if_neg d6];have d0:kB 13 t room e c=0:=by
    have d:kB 13 t room e c=if 20<=c.length then 2 else if ((e::c).map (sz 13)).sum+sz 13 t<=room then 0 else 6:=by
     unfold kB;rw[t1,t2];simp
    rw[d]at d2 d6 ⊢;by_cases C:20<=c.length
    ·exact absurd (if_pos C) d2
    ·rw[if_neg C]at d6 ⊢;by_cases D:((e::c).map (sz 13)).sum+sz 13 t<=room
     ·exact if_pos D
     ·exact absurd (if_neg D) d6
   rw[if_pos d0];refine ak (aj ⟨z,e,c,f,?_⟩);have H:∀(l:List (Int×ap×Tc×List Tc))(i:ap×Tc×List Tc),(l.find? λh=>h.1==b).isSome=true->((l.map λh=>if h.1=b then (b,i)else h).find? λh=>h.1==b).map (·.2)=some i:=by
    intro l i
    induction l with
    | nil=>simp
    | cons B l ih=>
     intro w;by_cases d:B.1=b
     ·simp[d]
     ·have r:(B.1==b)=false:=by simpa using d
      rw[fG,r]at w;rw[aV,if_neg d,fG,r];exact ih w
   refine H s.ps (z,e,c++ [t]) ?_;unfold Sy.get at f;cases J:s.ps.find? λh=>h.1==b with
   | none=>rw[J]at f;cases f
   | some=>rfl
end
def CM(mb n:Nat)(g:Int×Int->Nat)(w:ag):Prop:=∃D,w.ownsMap Tryz.prog 44 lW mb n D/\∀k,I2 k->D.atKey (kl k) (.held (ab 0))=.held (ab (g k))
theorem Fq(w:ag):(zeroValue 3).run Tryz.prog w=.ok (ab 0) w:=by kernel_rfl
variable {mb n:Nat} {g:Int×Int->Nat} {w:ag}
theorem CM.lt(a:CM mb n g w):mb<w.heap.size:=by
 obtain⟨c,b,_⟩:=a;exact b.lt
theorem CM.kept(c:CM mb n g w){w':ag}(h:w'.heap[mb]?=w.heap[mb]?):CM mb n g w':=by
 obtain⟨a,⟨es,b,d,e⟩,f⟩:=c;exact⟨a,⟨es,b,h.trans d,e⟩,f⟩
theorem CM.new(w:ag):CM w.heap.size 0 (λ_=>0) (w.alloc (.map #[] 0)):=⟨.map [],nD w _ _ _,λk _=>by simp[DataW.atKey]⟩
theorem CM.look(d:CM mb n g w){k:Int×Int}(b:I2 k):(Instr.lookup 52 (.map (some mb)) (pk k) false).run Tryz.prog w=.ok (ab (g k)) w:=by
 obtain⟨i,e,f⟩:=d;obtain⟨j,ps,h,c⟩:=e.lookup dD underlying52 (Fq w) (zd:=.held (ab 0)) (zp:=[]) rfl (dE b);rw[f k b]at c;have a:=Ct c;injection a with a;rw[h,a]
theorem CM.entry(P:CM mb n g w){k:Int×Int}(c:I2 k)(ai:n<1000000):∃(v0:ar)(B:Nat)(w1:ag),(Instr.mapEntry 52 (.map (some mb)) (pk k)).run Tryz.prog w=.ok (.tuple #[v0,goInt B]) w1/\bB (λb=>b=mb) w w1/\w1.heap.size=w.heap.size/\CM mb (n+1) g w1/\ ∀(w2:ag)(x:Nat),w2.heap[mb]?=w1.heap[mb]? ->∃l,(Instr.entryStore 52 (.map (some mb)) (goInt B) (ab x)).run Tryz.prog w2=.ok () l/\CM mb (n+1) (fF g k x) l/\bB (λb=>b=mb) w2 l/\l.heap.size=w2.heap.size:=by
 obtain⟨C,⟨es,f,a,m,K,I⟩,y⟩:=P;have q:w.ownsMap Tryz.prog 44 lW mb n C:=⟨es,f,a,m,K,I⟩;obtain⟨v0,B,v,u,F,aj,Y⟩:=WideElems.entry_then_store (e:=3) mi.law underlying52 Fq a m (dE c);have Z:w.mapTurned (ChangeMaps.setBlock w mb (.map v u)) mb:=⟨es,f,v,u,a,rfl⟩;obtain⟨E,ae⟩:=gh Z;refine⟨v0,B,_,F,E,ae,?_,λw2 x ad=>?_⟩
 ·have o:=mi.law;have S:=CM.look ⟨C,q,y⟩ c;rcases o.find w (dE c) es.toList m.keys with⟨A,t⟩|⟨j,p,A,t,L⟩
  ·have h:(Instr.mapEntry 52 (.map (some mb)) (pk k)).run Tryz.prog w=.ok (.tuple #[ab 0,goInt f]) (ChangeMaps.setBlock w mb (.map (es.push ⟨pk k,ab 0,f⟩) (f+1))):=by
     simp[Instr.mapEntry,cu underlying52,iS a,o.check w false (dE c),A,lj _ a,Result.andThen,ChangeMaps.setBlock]
   have ah:(Instr.mapUpdate 52 (.map (some mb)) (pk k) (ab 0)).run Tryz.prog w=.ok () (ChangeMaps.setBlock w mb (.map (es.push ⟨pk k,ab 0,f⟩) (f+1))):=by
    simp[Instr.mapUpdate,cu underlying52,iS a,o.check w false (dE c),A,lj _ a,Result.andThen,ChangeMaps.setBlock]
   rw[F]at h;injection h with _ h;rw[h];obtain⟨l,s,r,_⟩:=q.store (d:=.held (ab 0)) (ps:=[]) dD underlying52 (by unfold maxLen;omega) (dE c) rfl;rw[ah]at s;injection s with _ e;rw[<-e]at r;have Q:g k=0:=by
    rcases Maps.fit_look false dD underlying52 (Fq w) a m (dE c)with⟨z,_,_⟩|⟨N,_,T,E,_,_⟩
    ·rw[S]at z;injection z with z _;simpa using z
    ·exact absurd E (t N T)
   refine⟨_,r,λj i=>?_⟩;rw[sL q.isMap c i];split
   ·rename_i e;rw[e,Q];rfl
   ·exact y j i
  ·have i:es[j]?=some p:=by simpa using t
   have X:es.modify j (λe=>{e with key:=pk k})=es:=by
    apply Array.ext';rw[Array.toList_modify,ChangeMaps.modify_eq_set _ _ _ _ t];have:({p with key:=pk k}:MapEntry)=p:=by rw[<-L]
    rw[this];exact WideElems.set_self _ _ _ t
   have h:(Instr.mapEntry 52 (.map (some mb)) (pk k)).run Tryz.prog w=.ok (.tuple #[p.val,goInt p.born]) (ChangeMaps.setBlock w mb (.map es f)):=by
    simp[Instr.mapEntry,cu underlying52,iS a,o.check w false (dE c),A,i,L,o.stays w (dE c),X,lj _ a,Result.andThen,ChangeMaps.setBlock]
   rw[F]at h;injection h with _ h;rw[h];exact⟨C,World.ownsMap.mono ⟨es,f,jv a _,m,K,I⟩ (fI n),y⟩
 ·have D:w2.heap[mb]?=some (.map v u):=ad.trans (jv a _);obtain⟨H,G,U,V⟩:=Y w2 (ab x) D;have aa:w2.mapTurned (ChangeMaps.setBlock w2 mb (.map H G)) mb:=⟨v,u,H,G,D,rfl⟩;obtain⟨R,af⟩:=gh aa;obtain⟨l,s,r,_⟩:=q.store (d:=.held (ab x)) (ps:=[]) dD underlying52 (by unfold maxLen;omega) (dE c) rfl;rw[V]at s;injection s with _ e;rw[<-e]at r;obtain⟨O,M,J,W⟩:=r;rw[jv a]at J;refine⟨_,U,⟨_,⟨O,M,(jv D _).trans J,W⟩,λj i=>?_⟩,R,af⟩;rw[sL q.isMap c i];unfold fF;split
  ·rfl
  ·exact y j i
variable {P:Program} {md:Region.Mode} {ops:Array Oper} {Q:Exit->Act->ag->Prop} {S:ag->Prop} {X:Nat}
theorem Ms(i:Nat){d:Oper}{v:ar}{f:Nat}{e:Array Bool}{a:Act}{w:ag}(l:ops[i]?=some d)(b:(Region.noSelect ops && Region.free md ops e i && (Region.ready md ops e).contains i && AP md ops X i)=true)(h:∀c a w,Q (.panic c) (a.put d.dst v) w->Q (.panic c) a w)(k:d.guard=none)(m:∀w,S w->(execOp a.eval d).run P w=.ok (.value v) w)(j:S w)(g:ke P md ops Q S X f (e.setIfInBounds i true) (a.put d.dst v) w):ke P md ops Q S X (f+1) e a w:=by
 simp only[aK]at b;exact bf l b.1.1.1 b.1.1.2 b.1.2 b.2 h k m j g
theorem KC:(Tryz.prog.info? 54).map (λi=>(i.zero,i.size,i.bytes))=some (some (.agg #[.string ⟨#[]⟩,.int .i64 0,.int .i64 0,.int .i64 0,.int .i64 0,.string ⟨#[]⟩,.slice none 0 0]),7,88):=by kernel_rfl
def Oo(base:Nat)(wt:ByteArray)(a b:Int)(f:Option Addr)(L h:Nat)(xs:List Value)(R:World->World->Int->Int->ByteArray->Option Addr->Nat->Nat->Prop)(w i:World)(g c:Nat):Prop:=
 ∃d e y0 y1 y2 ya yl yc,Below w.heap.size w d/\Below d.heap.size d e/\R d e y0 y1 y2 ya yl yc/\bB (λj=>(Value.slice f L h).ownBlock=some j) e i/\i.ownsRow base 54 7 (.slice (some ⟨g,0,none⟩) (L+1) c) (L+1) (xs++ [.string wt,.int .i64 a,.int .i64 b,.int .i64 y0,.int .i64 y1,.string y2,.slice ya yl yc])/\((Value.slice f L h).ownBlock=some g\/e.heap.size<=g)
theorem E0(base m:Nat)(wt:ByteArray)(a b A B:Int)(C:ByteArray)(xa:Option Addr)(D xc:Nat)(n:Option Addr)(L q:Nat)(xs:List Value)(R:World->World->Int->Int->ByteArray->Option Addr->Nat->Nat->Prop)(w:World)(aT:L<=100000)(X:m<w.heap.size)(aU:base<=w.heap.size)(Z:Hid (w.cell? ⟨m,6,none⟩=some (.slice n L q)/\w.frozen? ⟨m,6,none⟩=false))(ag:Hid (w.ownsRow base 54 7 (.slice n L q) L xs))(ab:Hid ((Value.slice n L q).ownBlock≠some m))(aa:Hid (∀W,Below w.heap.size w W->Calls Tryz.prog 56 #[.agg #[.int .i64 A,.int .i64 B,.string C,.slice xa D xc]] W λe w'=>∃y0 y1 y2 ya yl yc,e=.returned (.agg #[.int .i64 y0,.int .i64 y1,.string y2,.slice ya yl yc])/\Hid (Below W.heap.size W w'/\R W w' y0 y1 y2 ya yl yc))):Calls Tryz.prog 46 #[.pointer (some ⟨m,0,none⟩),.string wt,.int .i64 a,.int .i64 b,.agg #[.int .i64 A,.int .i64 B,.string C,.slice xa D xc]] w λe w'=>e=.returned (.tuple #[])/\Hid (∃g c r,w'=r.setCell ⟨m,6,none⟩ (.slice (some ⟨g,0,none⟩) (L+1) c)/\Oo base wt a b n L q xs R w r g c):=by
 obtain⟨aH,an,au,aw,ax⟩:=bU KC;have M:=aq (⟨an,au,aw,ax⟩:_/\_/\_/\_);clear an au aw ax;go_enter func46,ntmps46;go_upto_region 1 with fail;generalize ay:w.alloc _=s;have y:Hid (Below w.heap.size w s/\s.heap[w.heap.size]?=some (.cells #[.int .i64 A,.int .i64 B,.string C,.slice xa D xc] 31)):=by
  rw[<-ay];exact⟨(aA _ _).alloc (av _) _,aD _ _⟩
 clear ay;obtain⟨h,T⟩:∃h,h=w.heap.size:=⟨_,rfl⟩;rw[<-T];rw[<-T]at y;have O:=aq T;clear T;have N:Hid (∀W:World,Below s.heap.size s W->W.cell? ⟨m,6,none⟩=some (.slice n L q)/\W.cell? ⟨h,0,none⟩=some (.int .i64 A)/\W.cell? ⟨h,1,none⟩=some (.int .i64 B)/\W.cell? ⟨h,2,none⟩=some (.string C)/\W.cell? ⟨h,3,none⟩=some (.slice xa D xc)):=λW d=>by
  have Q:=(d.block h (aI.1 y.2).1).trans y.2;have aC:=(O.out▸y.out.1:Below w.heap.size w s).trans (d.mono (O.out▸y.out.1:Below w.heap.size w s).size);exact⟨(aC.cell (p:=⟨m,6,none⟩) X).trans Z.1,ai Q 0,ai Q 1,ai Q 2,ai Q 3⟩
 have G:Hid (Below s.heap.size s s.drew):=(aA _ _).drew;have z:Hid (Below w.heap.size w s):=by
  have d:=y.1;rw[O.out]at d;exact d
 have u:=N _ G;refine wp_region_noPanic ?_;refine jU (λW=>W.cell? ⟨m,6,none⟩=some (.slice n L q)/\W.cell? ⟨h,0,none⟩=some (.int .i64 A)/\W.cell? ⟨h,1,none⟩=some (.int .i64 B)/\W.cell? ⟨h,2,none⟩=some (.string C)/\W.cell? ⟨h,3,none⟩=some (.slice xa D xc)) 15 (by kernel_rfl) ?_
 try simp only[eh]
 refine Ms 0 (v:= ?_) rfl (by kernel_rfl) (λ_ _ _ d=>d) rfl ?_ u ?_;rotate_left
 ·intro w' f
  try dsimp only at f
  go_simp
  try with_reducible rfl
 try simp only[Act.put,ch]
 refine Ms 1 (v:= ?_) rfl (by kernel_rfl) (λ_ _ _ d=>d) rfl ?_ u ?_;rotate_left
 ·intro w' f
  try dsimp only at f
  go_simp
  try with_reducible rfl
 try simp only[Act.put]
 refine Ms 2 (v:= ?_) rfl (by kernel_rfl) (λ_ _ _ d=>d) rfl ?_ u ?_;rotate_left
 ·intro w' f
  try dsimp only at f
  go_simp
  try with_reducible rfl
 try simp only[Act.put]
 refine Ms 3 (v:= ?_) rfl (by kernel_rfl) (λ_ _ _ d=>d) rfl ?_ u ?_;rotate_left
 ·intro w' f
  try dsimp only at f
  go_simp
  try with_reducible rfl
 try simp only[Act.put]
 refine Ms 4 (v:= ?_) rfl (by kernel_rfl) (λ_ _ _ d=>d) rfl ?_ u ?_;rotate_left
 ·intro w' f
  try dsimp only at f
  go_simp
  try with_reducible rfl
 try simp only[Act.put]
 refine Ms 5 (v:= ?_) rfl (by kernel_rfl) (λ_ _ _ d=>d) rfl ?_ u ?_;rotate_left
 ·intro w' f
  try dsimp only at f
  go_simp
  try with_reducible rfl
 try simp only[Act.put]
 refine Ms 6 (v:= ?_) rfl (by kernel_rfl) (λ_ _ _ d=>d) rfl ?_ u ?_;rotate_left
 ·intro w' f
  try dsimp only at f
  go_simp
  try with_reducible rfl
 try simp only[Act.put]
 refine Ms 7 (v:= ?_) rfl (by kernel_rfl) (λ_ _ _ d=>d) rfl ?_ u ?_;rotate_left
 ·intro w' f
  try dsimp only at f
  go_simp
  try with_reducible rfl
 try simp only[Act.put]
 refine Ms 8 (v:= ?_) rfl (by kernel_rfl) (λ_ _ _ d=>d) rfl ?_ u ?_;rotate_left
 ·intro w' f
  try dsimp only at f
  go_simp
  try with_reducible rfl
 try simp only[Act.put]
 refine dl (i:=9) (by kernel_rfl) rfl rfl (λx l=>?_) (by decide)
 go_simp
 refine(aa _ (z.trans (G.mono z.size))).mono ?_;rintro e j ⟨y0,y1,y2,ya,yl,yc,rfl,I⟩;have E:=aq (G.trans (I.1.mono G.size));have S:=N j E;refine l _ _ (λ_=>S) (λ_=>?_);clear l x
 try simp only[Act.put,ch,dz,dy]
 refine Ms 10 (v:= ?_) rfl (by kernel_rfl) (λ_ _ _ d=>d) rfl ?_ S ?_;rotate_left
 ·intro w' f
  try dsimp only at f
  go_simp
  try with_reducible rfl
 try simp only[Act.put,ch]
 have F:=aq (z.trans (E.mono z.size));obtain⟨o,ao⟩:∃o:Obj,o=.cells #[.string wt,.int .i64 a,.int .i64 b,.int .i64 y0,.int .i64 y1,.string y2,.slice ya yl yc] 54:=⟨_,rfl⟩;have K:Hid (Below j.heap.size j (j.alloc o)):=(aA _ _).alloc (av _) o;have ah:=aq (N _ (E.trans (K.mono E.size)));have ae:Hid ((j.alloc o).ownsRow base 54 7 (.slice n L q) L xs):=bw ag (aR (F.trans (K.mono F.size)) λ_=>False) λ_ _ d=>d;have ad:Hid ((j.alloc o).heap[j.heap.size]?=some o):=aD j o;have U:Hid ((j.alloc o).heap.size=j.heap.size+1):=(show _=_ by simp);rw[ao]at K ah ae ad U;clear ao o;refine dl (i:=11) (by kernel_rfl) rfl rfl (λx l=>?_) (by decide)
 go_simp
 refine l _ _ (λ_=>ah) (λaB=>?_);clear l x
 try simp only[Act.put,ch,dz,dy]
 refine dl (i:=12) (by kernel_rfl) rfl rfl (λx l=>?_) (by decide);refine wp_append_lies _ _ _ 38 rfl base 54 aH _ 7 88 underlying38 M.1 M.2.1 M.2.2.1 M.2.2.2 rfl (by decide) (.slice n L q) L xs rfl ae ⟨j.heap.size,0,none⟩ 1 1 [.string wt,.int .i64 a,.int .i64 b,.int .i64 y0,.int .i64 y1,.string y2,.slice ya yl yc] rfl rfl (World.news_of_block (cs:= #[.string wt,.int .i64 a,.int .i64 b,.int .i64 y0,.int .i64 y1,.string y2,.slice ya yl yc]) (t:=54) (fr:=(0,0)) ad) (by simp[Value.oneCell']) (by decide) (by unfold maxLen;omega) (by omega) (by have:=U.out;have:=F.size;omega) _ rfl ?_;intro P aj r ap am ak aE;have H:Hid (bB (λaK=>(Value.slice n L q).ownBlock=some aK) j r):=bB.trans (aR K _) (eH am) λ_ _ e=>e;have Y:Hid ((Value.slice n L q).ownBlock=some P\/j.heap.size<=P):=ak.imp id λe=>by have:=U.out;omega
 have af:=aq ap;have J:Hid ((r.cell? ⟨m,6,none⟩=some (.slice n L q)/\r.cell? ⟨h,0,none⟩=some (.int .i64 A)/\r.cell? ⟨h,1,none⟩=some (.int .i64 B)/\r.cell? ⟨h,2,none⟩=some (.string C)/\r.cell? ⟨h,3,none⟩=some (.slice xa D xc))/\r.frozen? ⟨m,6,none⟩=false):=by
  have aF:¬(Value.slice n L q).ownBlock=some h:=λe=>by
   have:=(ag.lt h e).2;have:=O.out;omega
  have aG:h<j.heap.size:=by
   have:=E.size;have:=(aI.1 y.2).1;omega
  have ar:m<j.heap.size:=aW X F.size;obtain⟨aL,aM,aN,aO,aP⟩:=S;have k:=λaJ=>H.cell aJ aG aF;refine⟨⟨(H.cell 6 ar ab).trans aL,(k 0).trans aM,(k 1).trans aN,(k 2).trans aO,(k 3).trans aP⟩,?_⟩;have al:=Z.2;unfold World.frozen? at al ⊢;rw[H.out.block m ar ab.out,F.out.block m X];exact al
 clear ap am ak aE;refine l _ _ (λ_=>J.1) (λV=>?_);clear l x
 try simp only[Act.put,ch]
 refine dl (i:=13) (by kernel_rfl) rfl rfl (λx l=>?_) (by decide)
 go_simp
 refine l _ _ (λ_=>V) (λ_=>?_);clear l x
 try simp only[Act.put,ch,dz,dy]
 refine Ms 14 (v:= ?_) rfl (by kernel_rfl) (λ_ _ _ d=>d) rfl ?_ V ?_;rotate_left
 ·intro w' f
  try dsimp only at f
  go_simp
  try with_reducible rfl
 try simp only[Act.put,ch]
 have aS:=J.2;have aQ:=J.1.1;refine jT (by kernel_rfl) rfl rfl (by kernel_rfl) (λx l=>?_)
 go_simp
 refine l _ _ (NoPanic.normal ?_);clear l x
 try simp only[Act.put,ch,dz,dy]
 have az:Hid (Oo base wt a b n L q xs R w r P aj):=⟨s.drew,j,y0,y1,y2,ya,yl,yc,z.trans (G.mono z.size),I.1,I.2,H,af,Y⟩;clear N aa J af Y H I u V aB S;exact dG (v:=.tuple #[]) (by simp[results]) rfl ⟨rfl,P,aj,r,rfl,az⟩
def AU(b:Nat):ar:=aH b
def xh{b:Type}(f:b->ar)(w:ag)(mb:Nat)(l:List (Int×b)):Prop:=∃es a,w.heap[mb]?=some (.map es a)/\es.toList.map (λe=>(e.key,e.val))=l.map (λp=>(ab p.1,f p.2))/\Stamped es a
def df{a:Type}(l:List (Int×a))(k:Int):Option a:=(l.find? λp=>p.1==k).map (·.2)
section
variable {α:Type} {f:α->ar}
theorem FV(k:Int):(es:List MapEntry)->(l:List (Int×α))->(i:Nat)->es.map (λe=>(e.key,e.val))=l.map (λp=>(ab p.1,f p.2))-> Instr.findNow (.int .i64) (ab k) es i=some ((l.findIdx? (λp=>p.1==k)).map λj=>(i+j,((df l k).map f).getD undef))
 | [],[],_,_=>rfl
 | [],_::_,_,h=>by simp at h
 | _::_,[],_,h=>by simp at h
 | e::es,p::l,i,h=>by
  rw[aV,aV,kY]at h;obtain⟨b,g⟩:=h;have d:e.key=ab p.1:=(Prod.mk.inj b).1;have n:e.val=f p.2:=(Prod.mk.inj b).2;have ih:=FV k es l (i+1) g;by_cases a:p.1=k
  ·have c:(k==p.1)=true:=by simp[a]
   simp[Instr.findNow,Instr.sameNow,d,n,a,List.findIdx?_cons,df]
  ·have c:(k==p.1)=false:=by simpa using λe=>a e.symm
   have m:(p.1==k)=false:=by simpa using a
   rw[Instr.findNow,d];simp only[Instr.sameNow,de,c];rw[ih];simp only[List.findIdx?_cons,df,fG,m];congr 1;cases List.findIdx? (λp=>p.1==k) l with
   | none=>rfl
   | some j=>simp;omega
theorem nP{w:ag}{es:Array MapEntry}{l:List (Int×α)}(k:Int)(b:es.toList.map (λe=>(e.key,e.val))=l.map λp=>(ab p.1,f p.2)):(Instr.findKey 3 (ab k) es.toList).run Tryz.prog w=.ok ((l.findIdx? (λp=>p.1==k)).map λj=>(j,((df l k).map f).getD undef)) w:=by
 have c:=underlying3;have a:=FV k es.toList l 0 b;simp only[cP]at a;simp[Instr.findKey,cu c,Result.andThen,a]
theorem lI(w:ag)(em:Bool)(k:Int):(Instr.checkKey em 10000 3 (ab k)).run Tryz.prog w=.ok () w:=by
 have a:=underlying3;unfold Instr.checkKey;simp[cu a,Result.andThen]
theorem zV{l:List (Int×α)}{k:Int}(a:df l k=none):l.findIdx? (λp=>p.1==k)=none:=by
 unfold df at a;rw[pK];intro p b;rw[Option.map_eq_none_iff,kZ]at a;simpa using a p b
theorem Nj{l:List (Int×α)}{k:Int}{b:α}(a:df l k=some b):∃j,l.findIdx? (λp=>p.1==k)=some j:=by
 cases e:l.findIdx? (λp=>p.1==k)with
 | some j=>exact⟨j,rfl⟩
 | none=>
  unfold df at a;rw[pK]at e;have:l.find? (λp=>p.1==k)=none:=kZ.2 λp c=>by simpa using e p c
  rw[this]at a;cases a
variable {w:ag} {mb mt et:Nat} {l:List (Int×α)}
theorem xh.look(i:xh f w mb l)(h:Tryz.prog.underlying mt=some (.map 3 et)){e:ar}(n:(zeroValue et).run Tryz.prog w=.ok e w)(k:Int)(c:Bool):(df l k=none->(Instr.lookup mt (.map (some mb)) (ab k) c).run Tryz.prog w=.ok (if c then .tuple #[e,.bool false]else e) w)/\ ∀b,df l k=some b->(Instr.lookup mt (.map (some mb)) (ab k) c).run Tryz.prog w=.ok (if c then .tuple #[f b,.bool true]else f b) w:=by
 obtain⟨es,o,g,j,_⟩:=i;have d:=nP (w:=w) k j;refine⟨λa=>?_,λb a=>?_⟩
 ·rw[zV a]at d;simp[Instr.lookup,cu h,iS g,lI,d,Result.andThen,n]
 ·obtain⟨p,m⟩:=Nj a;rw[m]at d;simp[Instr.lookup,cu h,iS g,lI,d,Result.andThen,a]
theorem xh.put(j:xh f w mb l)(n:Tryz.prog.underlying mt=some (.map 3 et)){k:Int}(h:df l k=none)(b:α):∃w',(Instr.mapUpdate mt (.map (some mb)) (ab k) (f b)).run Tryz.prog w=.ok () w'/\xh f w' mb (l++ [(k,b)])/\bB (λq=>q=mb) w w'/\w'.heap.size=w.heap.size:=by
 obtain⟨es,t,a,e,m⟩:=j;have g:=nP (w:=w) k e;rw[zV h]at g;refine⟨_,by simp[Instr.mapUpdate,cu n,iS a,lI,g,lj _ a,Result.andThen];rfl,⟨_,_,(heap_set a).1,?_,stamped_push m λx r i=>?_⟩,?_,?_⟩
 ·simp[e]
 ·have s:(x.key,x.val)∈l.map λc=>(Value.int .i64 c.1,f c.2):=e▸cm.2 ⟨x,r,rfl⟩;obtain⟨c,o,d⟩:=cm.1 s;rw[i]at d;have:=pK.1 (zV h) c o;simp at d;simp[d.1]at this
 ·exact⟨rfl,rfl,rfl,by simp,λq _ p=>(heap_set a).2 q p⟩
 ·simp
theorem BP{α β:Type}(f:α->β)(l:List α)(i:Nat):(l.map f).eraseIdx i=(l.eraseIdx i).map f:=by
 simp[tu,List.map_take,List.map_drop]
theorem xh.del(m:xh f w mb l)(j:Tryz.prog.underlying mt=some (.map 3 et))(k:Int):∃w',(∀ty,(Builtin.delete_ #[mt,3] ty #[.map (some mb),ab k]).run Tryz.prog w=.ok (.tuple #[]) w')/\xh f w' mb (l.eraseP λp=>p.1==k)/\bB (λq=>q=mb) w w'/\w'.heap.size=w.heap.size:=by
 obtain⟨es,h,a,b,i⟩:=m;have c:=nP (w:=w) k b;cases e:l.findIdx? (λp=>p.1==k)with
 | none=>
  rw[e]at c;refine⟨{w with heap:=w.heap.setIfInBounds mb (.map es h)},λty=>by simp[Builtin.delete_,cu j,iS a,lI,c,lj _ a,Result.andThen],⟨_,_,(heap_set a).1,?_,i⟩,?_,?_⟩
  ·rw[List.eraseP_of_forall_not λp r=>by have:=pK.1 e p r;rw[this];decide];exact b
  ·exact⟨rfl,rfl,rfl,by simp,λq _ d=>(heap_set a).2 q d⟩
  ·simp
 | some g=>
  rw[e]at c;refine⟨{w with heap:=w.heap.setIfInBounds mb (.map (es.eraseIdxIfInBounds g) h)},λty=>by simp[Builtin.delete_,cu j,iS a,lI,c,lj _ a,Result.andThen],⟨_,_,(heap_set a).1,?_,stamped_erase i g⟩,?_,?_⟩
  ·have o:g<es.size:=by
     have s:=(List.findIdx?_eq_some_iff_getElem.1 e).1;have n:=congrArg List.length b;simp at n;omega
   rw[List.eraseP_eq_eraseIdx,e];simp only[Array.eraseIdxIfInBounds,o,dite_true,Array.toList_eraseIdx];rw[<-BP,<-BP,b]
  ·exact⟨rfl,rfl,rfl,by simp,λq _ d=>(heap_set a).2 q d⟩
  ·simp
theorem xh.len(a:xh f w mb l)(e:Tryz.prog.underlying mt=some (.map 3 et))(ty:TypeId):(Builtin.len_ #[mt] ty #[.map (some mb)]).run Tryz.prog w=.ok (ab l.length) w:=by
 obtain⟨es,g,b,c,_⟩:=a;have d:es.size=l.length:=by
  have:=congrArg List.length c;simpa using this
 simp[Builtin.len_,cu e,iS b,Result.andThen,d];unfold goInt
 go_num
theorem xh.kept{w':ag}(b:xh f w mb l)(e:w'.heap[mb]?=w.heap[mb]?):xh f w' mb l:=by
 obtain⟨es,a,c,d⟩:=b;exact⟨es,a,e.trans c,d⟩
theorem xh.new(w:ag):xh f (w.alloc (.map #[] 0)) w.heap.size []:=⟨#[],0,aD _ _,rfl,stamped_empty 0⟩
end
abbrev IM(w:ag)(mb:Nat)(l:List (Int×Nat)):Prop:=xh AU w mb l
theorem IM.look{w:ag}{mb:Nat}{l:List (Int×Nat)}(a:IM w mb l)(k:Int)(c:Bool):(df l k=none->(Instr.lookup 67 (.map (some mb)) (ab k) c).run Tryz.prog w=.ok (if c then .tuple #[.pointer none,.bool false]else .pointer none) w)/\ ∀b,df l k=some b->(Instr.lookup 67 (.map (some mb)) (ab k) c).run Tryz.prog w=.ok (if c then .tuple #[AU b,.bool true]else AU b) w:=
 xh.look a underlying67 (by kernel_rfl) k c
theorem D6(w:ag)(k:Int)(c:Bool):(Instr.lookup 67 (.map none) (ab k) c).run Tryz.prog w=.ok (if c then .tuple #[.pointer none,.bool false]else .pointer none) w:=by
 have b:=underlying67;have d:(zeroValue 65).run Tryz.prog w=.ok (.pointer none) w:=by kernel_rfl
 have a:=nP (f:=AU) (w:=w) (es:= #[]) (l:=[]) k rfl;simp[Instr.lookup,cu b,lI,a,Result.andThen,d]
structure lB where
 lo:Nat
 b:Nat
 room:Int
 n:Nat
 prog:List (Bh (n+1))
 pa:au
 pc:Nat
structure gz where
 ow:Nat->Int
 po:Option Nat
 l:List (Int×Nat)
 wo:Option Nat
 wn:Nat
 f:Int×Int->List Tc
 sl:Int×Int->ar
 bo:Option Nat
 bn:Nat
 ev:ar
 es:List (ap×Int×Int×Tc)
 k:Nat
def ez(p:lB)(s:Sy)(d:gz):Array ar:= #[ae p.pa p.prog.length p.pc,ab p.room,ab s.last,.map d.po,.map d.wo,.map d.bo,d.ev]
def AV(p:lB)(s:Sy)(d:gz):BL:=⟨p.b,4,ez p s d,74⟩
def Ov(p:lB)(s:Sy)(d:gz):BL:=⟨p.b,5,ez p s d,74⟩
def DO(e:ap×Int×Int×Tc):List ar:=[af e.1,ab e.2.1,ab e.2.2.1,ab e.2.2.2.1.1,ab e.2.2.2.1.2.1,af e.2.2.2.1.2.2,ae e.2.2.2.2.1.1 e.2.2.2.2.2.length e.2.2.2.2.1.2]
def nM(t:Tc):Prop:=bG 13 t=0\/(t.1=(0,0,⟨#[]⟩)/\t.2.2=[])
structure bz (p:lB) (s:Sy) (d:gz) (w:ag):Prop where
 low:∀b,d.ow b≠0->p.lo<=b/\b<w.heap.size
 box:w.heap[p.b]?=some (.cells (ez p s d) 74)
 own:d.ow p.b=-5
 pg:(gG (p.n+1) w.heap.size w p.pa p.prog/\ub (kh (p.n+1) λb=>d.ow b=-4) (λb=>d.ow b=-4) p.pa p.prog)/\(p.prog.length<=p.pc/\p.pc<=maxLen/\mF p.n p.prog=0/\(aC (p.n+6) (cg p.n p.prog)).length<=2097152)
 pm:(d.po=none/\d.l=[])\/∃mb,d.po=some mb/\d.ow mb=-5/\mb≠p.b/\IM w mb d.l
 keys:d.l.map (·.1)=s.ps.map (·.1)/\(s.ps.map (·.1)).Nodup/\(∀q∈s.ps,1<=q.1/\q.1<=s.last)/\0<=s.last/\s.last<=90/\s.ps.length<=12
 ps:∀k b,df d.l k=some b->∃nm cs cms,s.get k=some (nm,cs,cms)/\P1 p.lo b nm p.room cs cms (d.k+201) (λq=>d.ow q=k) w/\cms.length<=20
 wy:iA p.lo (AV p s d) d.wo d.wn 13 d.f d.sl w/\(∀b,sD (AV p s d) d.wo d.sl b->b=p.b\/d.ow b=-1)/\(∀k,(d.f k).map (cn 13)=s.ways k)/\(∀k,(d.f k).length<=20)/\∀k,∀y∈d.f k,bG 13 y=0/\aT 13 y=true/\In w.heap.size w 13 y/\cv (λb=>d.ow b=-1/\¬sD (AV p s d) d.wo d.sl b) 13 y
 bd:eY p.lo (Ov p s d) d.bo d.bn s.bonds w/\AY s.bonds/\∀b,d.bo=some b->d.ow b=-2
 evr:w.ownsRow p.lo 54 7 d.ev d.es.length (d.es.flatMap DO)/\∀b,d.ev.ownBlock=some b->d.ow b=-3
 evt:d.es.map (λe=>(e.1,e.2.1,e.2.2.1,cn 13 e.2.2.2))=s.evs/\∀e∈d.es,(In w.heap.size w 13 e.2.2.2/\cv (λb=>d.ow b=-3/\d.ev.ownBlock≠some b) 13 e.2.2.2)/\nM e.2.2.2
theorem eE{S D:aO}{w w':ag}(c:bB S w w')(e:∀b,D b->¬S b){n:Nat}{x:Tm n}(a:In w.heap.size w n x/\cv D n x):In w'.heap.size w' n x/\cv D n x:=
 ⟨(In.off (P:=λb=>D b/\b<w.heap.size) (λb d=>c.block b d.2 (e b d.1)) (In.offB a.2 a.1) a.1).mono c.size,a.2⟩
theorem Hj{l:List (Int×Nat)}{k:Int}{b:Nat}(a:df l k=some b):(k,b)∈l:=by
 unfold df at a;cases c:l.find? (λe=>e.1==k)with
 | none=>rw[c]at a;cases a
 | some e=>
  rw[c]at a;have f:=List.mem_of_find?_eq_some c;have d:=List.find?_some c;simp at a d;subst a d;exact f
theorem bz.key{p:lB}{s:Sy}{d:gz}{w:ag}(a:bz p s d w){k:Int}{b:Nat}(e:df d.l k=some b):1<=k/\k<=s.last:=by
 have c:k∈d.l.map (·.1):=cm.2 ⟨_,Hj e,rfl⟩;rw[a.keys.1]at c;obtain⟨g,f,rfl⟩:=cm.1 c;exact a.keys.2.2.1 g f
theorem iA.turn{base:Nat}{p d:BL}{mo:Option Nat}{n N:Nat}{f:Int×Int->List (Tm N)}{sl:Int×Int->ar}{w w':ag}(c:iA base p mo n N f sl w){S:aO}(m:bB S w w')(j:∀b,sD p mo sl b->b≠p.b->¬S b)(o:d.b=p.b)(i:t8 d mo w'):iA base d mo n N f sl w':=by
 refine⟨by rw[o];exact c.1,i,?_⟩;rcases c.2.2 with a|⟨mb,rfl,l⟩
 ·exact aj a
 ·refine ak ⟨mb,rfl,l.kee m λb e=>j b (FS e) λa=>?_⟩;rcases e with rfl|⟨k,g,h⟩
  ·exact xf c a.symm
  ·exact AS c g (by rw[h,a])
theorem eY.turn{base:Nat}{p a:BL}{mo:Option Nat}{n:Nat}{g:Int×Int->Bool}{w w':ag}(c:eY base p mo n g w){S:aO}(h:bB S w w')(f:∀b:Nat,mo=Option.some b->¬S b)(i:a.b=p.b)(e:t8 a mo w'):eY base a mo n g w':=by
 refine⟨by rw[i];exact c.1,e,?_⟩;rcases c.2.2 with d|⟨mb,rfl,j⟩
 ·exact aj d
 ·exact ak ⟨mb,rfl,j.kee h (f mb rfl)⟩
section
variable {p:lB} {s:Sy} {d:gz} {w w':ag} {ow:Nat->Int} {S:aO}
theorem bz.pgK(e:bz p s d w)(f:bB S w w')(g:∀b,d.ow b=-4->¬S b)(h:∀b,d.ow b≠0->ow b=d.ow b):gG (p.n+1) w'.heap.size w' p.pa p.prog/\ub (kh (p.n+1) λb=>ow b=-4) (λb=>ow b=-4) p.pa p.prog:=by
 have c:=cQ (ex (p.n+1)) 2 (pW (p.n+1)) p.pa;exact⟨c.2.2.2.1 _ _ _ _ f.size (c.2.2.1 _ _ _ w' _ (λb a=>f.block b a.2 (g b a.1)) (c.2.1 _ _ _ _ e.pg.1.2 e.pg.1.1) e.pg.1.1),c.1 _ _ _ (λb a=>(h b (by rw[a];decide)).trans a) e.pg.1.2⟩
theorem bz.pmK(e:bz p s d w)(j:bB S w w')(i:∀b,d.ow b=-5->b≠p.b->¬S b)(k:∀b,d.ow b≠0->ow b=d.ow b):(d.po=none/\d.l=[])\/∃mb,d.po=some mb/\ow mb=-5/\mb≠p.b/\IM w' mb d.l:=by
 rcases e.pm with f|⟨mb,g,a,c,h⟩
 ·exact aj f
 ·exact ak ⟨mb,g,(k mb (by rw[a];decide)).trans a,c,h.kept (j.block mb (e.low mb (by rw[a];decide)).2 (i mb a c))⟩
theorem bz.psK(f:bz p s d w)(c:bB S w w'){k:Int}{b j:Nat}(o:d.k<=j)(n:∀b,d.ow b=k->¬S b)(t:∀b,d.ow b≠0->ow b=d.ow b)(r:∀b,ow b≠0->p.lo<=b/\b<w'.heap.size)(g:df d.l k=some b):∃nm cs a,s.get k=some (nm,cs,a)/\P1 p.lo b nm p.room cs a (j+201) (λq=>ow q=k) w'/\a.length<=20:=by
 obtain⟨nm,cs,a,h,i,m⟩:=f.ps k b g;have u:=(f.key g).1;exact⟨nm,cs,a,h,(i.kept (S:=S) ⟨c.os,c.tape,c.output,c.size,c.block⟩ n).mono (λb e=>(t b (by rw[e];omega)).trans e) (Nat.add_le_add_right o 201) λb e=>r b (by rw[e];omega),m⟩
theorem bz.wyK(e:bz p s d w)(j:bB S w w')(i:∀b,d.ow b=-1->¬S b)(l:∀b,d.ow b≠0->ow b=d.ow b){q:BL}(m:q.b=p.b)(o:t8 q d.wo w'):iA p.lo q d.wo d.wn 13 d.f d.sl w'/\(∀b,sD q d.wo d.sl b->b=p.b\/ow b=-1)/\∀k,∀y∈d.f k,bG 13 y=0/\aT 13 y=true/\In w'.heap.size w' 13 y/\cv (λb=>ow b=-1/\¬sD q d.wo d.sl b) 13 y:=by
 have h:∀b,sD q d.wo d.sl b ↔ sD (AV p s d) d.wo d.sl b:=λb=>by
  unfold sD;rw[m];exact Iff.rfl
 refine⟨e.wy.1.turn j (λb c r=>?_) m o,λb c=>(e.wy.2.1 b ((h b).1 c)).imp id λa=>(l b (by rw[a];decide)).trans a,λk y t=>?_⟩
 ·rcases e.wy.2.1 b c with a|a
  ·exact absurd a r
  ·exact i b a
 ·obtain⟨y1,y2,u⟩:=e.wy.2.2.2.2 k y t;have n:=eE j (λb q=>i b q.1) u;exact⟨y1,y2,n.1,n.2.mono λb g=>⟨(l b (by rw[g.1];decide)).trans g.1,λc=>g.2 ((h b).1 c)⟩⟩
theorem bz.bdK(a:bz p s d w)(g:bB S w w')(f:∀b,d.ow b=-2->¬S b)(h:∀b,d.ow b≠0->ow b=d.ow b){q:BL}(i:q.b=p.b)(e:t8 q d.bo w'):eY p.lo q d.bo d.bn s.bonds w'/\AY s.bonds/\∀b,d.bo=some b->ow b=-2:=
 ⟨a.bd.1.turn g (λb c=>f b (a.bd.2.2 b c)) i e,a.bd.2.1,λb c=>(h b (by rw[a.bd.2.2 b c];decide)).trans (a.bd.2.2 b c)⟩
theorem bz.evK(c:bz p s d w)(h:bB S w w')(f:∀b,d.ow b=-3->¬S b)(i:∀b,d.ow b≠0->ow b=d.ow b):(w'.ownsRow p.lo 54 7 d.ev d.es.length (d.es.flatMap DO)/\∀b,d.ev.ownBlock=some b->ow b=-3)/\∀e∈d.es,(In w'.heap.size w' 13 e.2.2.2/\cv (λb=>ow b=-3/\d.ev.ownBlock≠some b) 13 e.2.2.2)/\nM e.2.2.2:=by
 refine⟨⟨bw c.evr.1 h λb a=>f b (c.evr.2 b a),λb a=>(i b (by rw[c.evr.2 b a];decide)).trans (c.evr.2 b a)⟩,λe g=>⟨?_,(c.evt.2 e g).2⟩⟩;have j:=eE h (λb a=>f b a.1) (c.evt.2 e g).1;exact⟨j.1,j.2.mono λb a=>⟨(i b (by rw[a.1];decide)).trans a.1,a.2⟩⟩
theorem qS{d:gz}{w:ag}(a:w.heap[p.b]?=some (.cells (ez p s d) 74)):t8 (AV p s d) d.wo w/\t8 (Ov p s d) d.bo w:=by
 refine⟨⟨⟨by simp[AV,ez],by simp[AV]⟩,?_⟩,⟨⟨by simp[Ov,ez],by simp[Ov]⟩,?_⟩⟩
 ·simp[AV,ez,a]
 ·simp[Ov,ez,a]
theorem bz.kept(a:bz p s d w)(c:bB S w w')(n:∀b,S b->d.ow b=0):bz p s d w':=by
 have j:∀b,d.ow b≠0->¬S b:=λb e r=>e (n b r);have f:∀b,d.ow b≠0->d.ow b=d.ow b:=λ_ _=>rfl;have h:w'.heap[p.b]?=some (.cells (ez p s d) 74):=(c.block p.b (aI.1 a.box).1 (j p.b (by rw[a.own];decide))).trans a.box;have i:∀b,d.ow b≠0->p.lo<=b/\b<w'.heap.size:=λb e=>⟨(a.low b e).1,aW (a.low b e).2 c.size⟩;have t:∀{t:Int},t≠0->∀b,d.ow b=t->¬S b:=λo b g=>j b (by rw[g];exact o);obtain⟨y1,y2,q⟩:=a.wyK c (t (by decide)) f rfl (qS h).1;obtain⟨l,m⟩:=a.evK c (t (by decide)) f;exact⟨i,h,a.own,⟨a.pgK c (t (by decide)) f,a.pg.2⟩,a.pmK c (λb g _=>t (by decide) b g) f,a.keys,λk b e=>a.psK c (av _) (t (by have:=(a.key e).1;omega)) f i e,⟨y1,y2,a.wy.2.2.1,a.wy.2.2.2.1,q⟩,a.bdK c (t (by decide)) f rfl (qS h).2,l,a.evt.1,m⟩
theorem bz.later(a:bz p s d w)(b:am w w'):bz p s d w':=a.kept (aR b λ_=>False) λ_ q=>q.elim
end
def PP(f g:Int)(h:ap)(xa:au)(i xc:Nat)(t:Tc)(w:ag):Prop:=
 ∀b,am w b->ao 56 #[.agg #[ab f,ab g,af h,ae xa i xc]] b λd c=>∃y0 y1 y2 ya yl yc,d=.returned (.agg #[ab y0,ab y1,af y2,ae ya yl yc])/\Hid (am b c/\∃a:Tc,(a.1=(y0,y1,y2)/\a.2.1=(ya,yc)/\a.2.2.length=yl)/\(In c.heap.size c 13 a/\cv (λe=>b.heap.size<=e) 13 a)/\cn 13 a=t/\nM a)
theorem kJ{m:Nat}{x:Tm (m+1)}{w:ag}(n:In w.heap.size w (m+1) x)(g:bG (m+1) x=0):PP x.1.1 x.1.2.1 x.1.2.2 x.2.1.1 x.2.2.length x.2.1.2 (cn (m+1) x) w:=λW f=>by
 have l:aJ ⟨m+1,x⟩:=aU.2 (bJ.1 g).1;refine(iG (m+1) x W.heap.size W ((n.below f).mono f.size) (av _) l).mono ?_;rintro e w' ⟨y,rfl,H⟩;obtain⟨i,j,k,d⟩:=H;have a:bG (m+1) y=0:=(bZ d).trans g;have c:aJ ⟨m+1,y⟩:=aU.2 (bJ.1 a).1;have b:fP (m+1) y<13:=by have:=(bJ.1 a).2.1;omega
 have h:=jN 13 (m+1) y c b;refine⟨y.1.1,y.1.2.1,y.1.2.2,y.2.1.1,y.2.2.length,y.2.1.2,rfl,i,aZ 13 (m+1) y,⟨rfl,rfl,by simp[aZ]⟩,⟨sZ 13 (m+1) y _ _ c b j,uE 13 (m+1) y _ c b k⟩,(iF h).trans (iF d),aj ((bZ h).trans a)⟩
theorem Kb(w:ag):PP 0 0 ⟨#[]⟩ none 0 0 sE w:=λW h=>by
 refine(sR 12 0 0 ⟨#[]⟩ none 0 0 [] W (by decide) λw1 c=>?_).mono ?_
 ·refine(l6 none 0 w1).mono ?_;rintro e w' ⟨rfl,rfl⟩;exact⟨none,0,[],rfl,aA _ _,rfl,av _,aM _,rfl,aj rfl⟩
 ·rintro e w' ⟨a,b,l,rfl,H⟩;obtain⟨c,d,g,f,_⟩:=H;obtain rfl:l=[]:=bI d;exact⟨0,0,⟨#[]⟩,a,0,b,rfl,c,((0,0,⟨#[]⟩),(a,b),[]),⟨rfl,rfl,rfl⟩,⟨⟨⟨show dI 0 by unfold dI;decide,show dI 0 by unfold dI;decide,show (0:Nat)<=maxLen from aM _,aM _,f⟩,aj rfl⟩,aj rfl⟩,rfl,ak ⟨rfl,rfl⟩⟩
def Gb(d:gz)(w w':ag)(t:Int)(q:Nat):Int:=if w.heap.size<=q/\q<w'.heap.size then t else d.ow q
theorem uH{p:lB}{s:Sy}{d:gz}{w w':ag}{t:Int}(a:bz p s d w)(e:w.heap.size<=w'.heap.size)(c:p.lo<=w.heap.size):∀b,Gb d w w' t b≠0->p.lo<=b/\b<w'.heap.size:=λb q=>by
 unfold Gb at q;split at q
 ·omega
 ·have:=a.low b q;omega
theorem uI{p:lB}{s:Sy}{d:gz}{w w':ag}{t:Int}(a:bz p s d w):∀b,d.ow b≠0->Gb d w w' t b=d.ow b:=λb q=>by
 have:=(a.low b q).2;exact if_neg (by omega)
theorem bz.lo{p:lB}{s:Sy}{d:gz}{w:ag}(a:bz p s d w):p.lo<=w.heap.size/\p.b<w.heap.size:=by
 have:=a.low p.b (by rw[a.own];decide);omega
def zo(p:lB)(s:Sy)(d:gz)(wt:ap)(a b:Int)(t:Tc)(w w':ag):Prop:=
 ∃e f,bz p (s.tell wt a b t) {d with ow:=Gb d w w' (-3),ev:=e,es:=d.es++ [(wt,a,b,f)]} w'/\bB (λc=>c=p.b\/d.ow c=-3) w w'
theorem bz.tell{p:lB}{s:Sy}{d:gz}{w:ag}(h:bz p s d w)(wt:ap)(a b V W:Int)(X:ap)(xa:au)(Y xc:Nat)(t:Tc)(aG:PP V W X xa Y xc t w)(aF:d.es.length<=100000):ao 46 #[aH p.b,af wt,ab a,ab b,.agg #[ab V,ab W,af X,ae xa Y xc]] w λe w'=>e=.returned (.tuple #[])/\Hid (zo p s d wt a b t w w'):=by
 obtain⟨aa,aq⟩:=h.lo;obtain⟨y,z,m⟩:∃y z,d.ev=ae y d.es.length z:=by
  rcases h.evr.1.2 with⟨e,aD⟩|⟨g,c,aT,e,_⟩
  ·exact⟨none,0,by rw[e,aD]⟩
  ·exact⟨_,c,e⟩
 have O:=h.box;have I:d.ev.ownBlock≠some p.b:=λe=>by
  have u:=h.evr.2 _ e;rw[h.own]at u;cases u
 have an:=h.evr.1;rw[m]at an I;refine(E0 p.lo p.b wt a b V W X xa Y xc y d.es.length z _ (λK w' y0 y1 y2 ya yl yc=>∃l:Tc,(l.1=(y0,y1,y2)/\l.2.1=(ya,yc)/\l.2.2.length=yl)/\(In w'.heap.size w' 13 l/\cv (λf=>K.heap.size<=f) 13 l)/\cn 13 l=t/\nM l) w aF aq aa ⟨?_,by simp[World.frozen?,O]⟩ an I aG).mono ?_
 ·have u:=ai O 6;simp only[ez,dc,dt]at u;rw[m]at u;exact u
 rintro e w' ⟨rfl,ax⟩;obtain⟨g,c,q,x,K,L,y0,y1,y2,ya,yl,yc,R,aO,⟨l,⟨M,N,aE⟩,Q,aI,aL⟩,S,ar,J⟩:=ax;have H:am w L:=R.trans (aO.mono R.size);have P:bB (λaS=>(Value.slice y d.es.length z).ownBlock=some aS) w q:=(aR H _).trans S λ_ _ e=>e;have o:bB (λf=>f=p.b\/d.ow f=-3) w w':=by
  rw[x];refine(P.mono (T:=λf=>f=p.b\/d.ow f=-3) λf _ e=>ak (h.evr.2 f (by rw[m];exact e))).trans (bK q p.b 6 _) λf _ e=>aj e
 have aN:=o.size;have aX:w'.heap.size=q.heap.size:=by rw[x];simp[World.setCell]
 have Z:w'.heap[p.b]?=some (.cells (ez p (s.tell wt a b t) {d with ow:=Gb d w w' (-3),ev:=ae (some ⟨g,0,none⟩) (d.es.length+1) c,es:=d.es++ [(wt,a,b,l)]}) 74):=by
  have v:q.heap[p.b]?=some (.cells (ez p s d) 74):=(P.block p.b aq I).trans O;rw[x];simp[World.setCell,bQ,v,ez,Sy.tell]
 have ad:=uH (t:=-3) h aN aa;have n:=uI (w':=w') (t:=-3) h;have G:∀{U:Int},U≠ -3->U≠ -5->∀f,d.ow f=U->¬(f=p.b\/d.ow f=-3):=λF v f e i=>by
  rcases i with rfl|i
  ·rw[h.own]at e;exact v e.symm
  ·exact F (e.symm.trans i)
 have al:∀f,w.heap.size<=f->f<w'.heap.size->Gb d w w' (-3) f=-3:=λf ay aA=>if_pos ⟨ay,aA⟩;obtain⟨aB,aC⟩:=qS Z;obtain⟨E,j,r⟩:=h.wyK o (G (by decide) (by decide)) n rfl aB;refine⟨rfl,ae (some ⟨g,0,none⟩) (d.es.length+1) c,l,⟨ad,Z,(n p.b (by rw[h.own];decide)).trans h.own,⟨h.pgK o (G (by decide) (by decide)) n,h.pg.2⟩,h.pmK o (λf M N i=>?_) n,h.keys,λk b f=>h.psK o (av _) (G (by have:=(h.key f).1;omega) (by have:=(h.key f).1;omega)) n ad f,⟨E,j,h.wy.2.2.1,h.wy.2.2.2.1,r⟩,h.bdK o (G (by decide) (by decide)) n rfl aC,⟨?_,λf e=>?_⟩,?_,λe A=>?_⟩,o⟩
 ·rcases i with i|i
  ·exact N i
  ·rw[M]at i;cases i
 ·have e:[(wt,a,b,l)].flatMap DO=[af wt,ab a,ab b,ab y0,ab y1,af y2,ae ya yl yc]:=by simp[DO,M,N,aE]
  have v:w'.ownsRow p.lo 54 7 (ae (some ⟨g,0,none⟩) (d.es.length+1) c) (d.es.length+1) (d.es.flatMap DO++ [(wt,a,b,l)].flatMap DO):=by
   rw[e,x];refine bw ar (bK q p.b 6 _) λf aM i=>?_;have:g=f:=az aM;subst this i;rcases J with i|i
   ·exact I i
   ·have:=H.size;omega
  rw[<-ld]at v;simpa using v
 ·have B:g=f:=az e;subst B;rcases J with i|i
  ·have F:=h.evr.2 g (by rw[m];exact i);exact(n g (by rw[F];decide)).trans F
  ·have:=H.size;have:=(ar.lt g rfl).2;exact al g (by omega) (by omega)
 ·show _=s.evs++ [(wt,a,b,t)];rw[gQ,h.evt.1,aV,cC,aI]
 ·have aK:bB (λf=>f=p.b\/d.ev.ownBlock=some f) w w':=by
    rw[x,m];exact(P.mono (T:=λf=>f=p.b\/(Value.slice y d.es.length z).ownBlock=some f) λf _ e=>ak e).trans (bK q p.b 6 _) λf _ e=>aj e
  have aJ:bB (λf=>f=p.b\/d.ev.ownBlock=some f) L w':=by
   rw[x,m];exact(S.mono (T:=λf=>f=p.b\/(Value.slice y d.es.length z).ownBlock=some f) λf _ e=>ak e).trans (bK q p.b 6 _) λf _ e=>aj e
  have aW:=H.size;rcases cY.1 A with A|A
  ·obtain⟨⟨aw,aP⟩,aQ⟩:=h.evt.2 e A;refine⟨?_,aQ⟩;have C:=eE aK (D:=λf=>(d.ow f=-3/\d.ev.ownBlock≠some f)/\f<w.heap.size) (λf E j=>?_) ⟨aw,In.offB aP aw⟩
   ·refine⟨C.1,C.2.mono λf i=>⟨(n f (by rw[i.1.1];decide)).trans i.1.1,λj=>?_⟩⟩;have B:g=f:=az j;subst B;rcases J with r|r
    ·exact i.1.2 (by rw[m];exact r)
    ·omega
   ·rcases j with rfl|j
    ·have:=E.1.1;rw[h.own]at this;cases this
    ·exact E.1.2 j
  ·obtain rfl:=dx.1 A;refine⟨?_,aL⟩;have aU:=R.size;have ah:∀f,d.ev.ownBlock=some f->f<w.heap.size:=λf i=>(h.evr.1.lt f i).2;have C:=eE aJ (D:=λf=>K.heap.size<=f/\f<L.heap.size) (λf E j=>?_) ⟨Q.1,In.offB Q.2 Q.1⟩
   ·have:=S.size;refine⟨C.1,C.2.mono λf i=>⟨al f (by omega) (by omega),λj=>?_⟩⟩;have B:g=f:=az j;subst B;rcases J with r|r
    ·have:=ah g (by rw[m];exact r);omega
    ·omega
   ·rcases j with rfl|j
    ·omega
    ·have:=ah f j;omega
theorem QQ{w:ag}{q:Nat}{a b c d:ar}{T:TypeId}{fr:Nat×Nat}(e:w.heap[q]?=some (.cells #[a,b,c,d] T fr)):ah w q 0 a/\ah w q 1 b/\ah w q 2 c/\ah w q 3 d:=by simp[World.cell?,e]
theorem Hi{l:List (Int×Nat)}{ps:List (Int×ap×Tc×List Tc)}(k:Int)(a:l.map (·.1)=ps.map (·.1)):(df l k).isSome=((ps.find? λp=>p.1==k).map (·.2)).isSome:=by
 induction l generalizing ps with
 | nil=>
  cases ps with
  | nil=>rfl
  | cons b ps=>simp at a
 | cons c l ih=>
  cases ps with
  | nil=>simp at a
  | cons b ps=>
   simp only[aV,kY]at a;have ih:=ih a.2;unfold df at ih ⊢;rw[fG,fG,a.1];cases b.1==k
   ·exact ih
   ·rfl
section
variable {p:lB} {s:Sy} {d:gz} {w:ag}
theorem bz.alive(a:bz p s d w)(k:Int):(df d.l k).isSome=(s.get k).isSome:=Hi k a.keys.1
theorem bz.look(g:bz p s d w)(k:Int)(c:Bool):(Instr.lookup 67 (.map d.po) (ab k) c).run Tryz.prog w=.ok (if c then .tuple #[match df d.l k with|some b=>AU b|none=> .pointer none,.bool (df d.l k).isSome]else match df d.l k with|some b=>AU b|none=> .pointer none) w:=by
 rcases g.pm with⟨a,f⟩|⟨mb,a,_,_,f⟩
 ·rw[a,f];have:=D6 w k c;cases c<;>exact this
 ·rw[a];obtain⟨h,i⟩:=f.look k c;cases e:df d.l k with
  | none=>
   rw[h e];cases c<;>rfl
  | some b=>
   rw[i b e];cases c<;>rfl
theorem bz.cells(c:bz p s d w):ah w p.b 0 (ae p.pa p.prog.length p.pc)/\ah w p.b 1 (ab p.room)/\ah w p.b 2 (ab s.last)/\ah w p.b 3 (.map d.po):=by
 have a:=c.box;exact⟨ai a 0,ai a 1,ai a 2,ai a 3⟩
theorem bz.isAlive(a:bz p s d w)(k:Int):ao 51 #[aH p.b,ab k] w λe w'=>e=.returned (.bool (s.get k).isSome)/\w'=w:=by
 have i:=a.cells.2.2.2;have f:=a.look k true;rw[if_pos rfl]at f;have c:=a.alive k;obtain⟨h,g⟩:∃h,h=(s.get k).isSome:=⟨_,rfl⟩;rw[<-g]at c ⊢;rw[c]at f;generalize (match df d.l k with|some b=>AU b|none=> .pointer none)=j at f;clear c g;generalize d.po=mo at*;clear a;go_enter func51,ntmps51;go_wp2_with fail
 go_ret
 exact⟨rfl,rfl⟩
theorem bz.len(c:bz p s d w)(ty:TypeId):(Builtin.len_ #[67] ty #[.map d.po]).run Tryz.prog w=.ok (ab s.ps.length) w:=by
 have e:d.l.length=s.ps.length:=by
  have:=congrArg List.length c.keys.1;simpa using this
 rcases c.pm with⟨a,b⟩|⟨mb,a,_,_,b⟩
 ·rw[a,<-e,b];exact Maps.len_nil underlying67 ty
 ·rw[a,<-e];exact xh.len b underlying67 ty
theorem bz.mayHave(c:bz p s d w)(n:Nat)(r:n<=1000):ao 40 #[aH p.b,ab n] w λe w'=>e=.returned (.bool (s.may n))/\w'=w:=by
 obtain⟨_,_,k,l⟩:=c.cells;have q:=c.len 3;obtain⟨_,_,_,t,u,v⟩:=c.keys;obtain⟨j,a⟩:∃j,j=s.may n:=⟨_,rfl⟩;rw[<-a];unfold Sy.may at a;generalize s.last=h at*;generalize s.ps.length=f at*;generalize d.po=mo at*;clear c;have m:IntKind.i64.wrap ((f:Int)+n)=(f:Int)+n:=by rw[IntKind.wrap];simp[IntKind.bits,IntKind.signed];omega
 have o:IntKind.i64.wrap (h+n)=h+n:=by rw[IntKind.wrap];simp[IntKind.bits,IntKind.signed];omega
 go_enter func40,ntmps40;by_cases g:(f:Int)+n<=12
 ·by_cases i:h+n<=90
  ·rw[iW g,iW i]at a;subst a;go_wp2_with fail
   go_ret
   exact⟨rfl,rfl⟩
  ·rw[iW g,decide_eq_false i]at a;subst a;go_wp2_with fail
   go_ret
   exact⟨rfl,rfl⟩
 ·rw[decide_eq_false g]at a;subst a;go_wp2_with fail
  go_ret
  exact⟨rfl,rfl⟩
theorem Ef(n:Nat)(nm:ap)(l:List (Bh n))(q:au)(F len B r:Nat)(w:ag)(J:l.length=len)(K:len<=9223372036854775807)(C:B<=w.heap.size)(_hsb:r<w.heap.size)(v:Hid (ah w r 0 (ae q len F)))(y:Hid (gG n B w q l)):ao 41 #[aH r,af nm] w λe w'=>e=.returned (.bool (gD n nm l).isSome)/\am w w':=by
 have H:=v.out;go_enter func41,ntmps41;go_wp2_with fail;go_loopw [12] (λm wr=>∃a:Nat,a<=len/\m=ab a/\Hid (am w wr/\gD n nm l=gD n nm (l.drop a))) (λm _=>len-(intOf m).toNat)
 case atStart=>exact⟨0,by omega,rfl,aA _ _,rfl⟩
 case round=>
 obtain⟨a,I,rfl,c⟩:=hrel;by_cases L:a<len
 ·obtain⟨b,d⟩:∃b,l[a]?=some b:=⟨l[a]'(by omega),aN _⟩;obtain⟨j,lo,rfl,E,x⟩:∃g o,q=some ⟨g,o,none⟩/\g<B/\Hid (∀(t:Nat)(f:ar),(pW n b)[t]?=some f->ah w g (o+a*2+t) f):=by
   rcases y with e|⟨g,o,e,D,A⟩
   ·rw[e]at d;simp at d
   ·exact⟨g,o,e,D,(A a _ d).1⟩
  have h:∀(t:Nat)(f:ar),(pW n b)[t]?=some f->ah wr j (lo+a*2+t) f:=λt f u=>(c.1.cell (p:=⟨j,lo+a*2+t,none⟩) (aW E C)).trans (x t f u);have G:ah wr j (lo+a*2) (af b.1):=h 0 _ rfl;have O:ah wr j (lo+a*2+1) (ae b.2.1.1 b.2.2.length b.2.1.2):=h 1 _ rfl;have M:(0:Int)<=(a:Int):=by omega
  have N:(a:Int)<(len:Int):=by omega
  have s:Hid (∀o,am w (wr.alloc o)):=λo=>c.1.alloc c.1.size o;by_cases i:b.1=nm
  ·have k:Hid (gD n nm l=some b):=by
     show _=_;rw[c.out.2,oZ n nm d,if_pos i]
   rw[i]at G;clear h c d;go_wp2_with fail
   go_ret
   exact⟨bY (by rw[k.out];rfl),s _⟩
  ·have k:Hid (gD n nm l=gD n nm (l.drop (a+1))):=by
     show _=_;rw[c.out.2,oZ n nm d,if_neg i]
   have u:(b.1.toList==nm.toList)=false:=by
    rw[gW];intro e;rw[cF,cF]at e;exact i (ByteArray.ext (Array.ext' e))
   clear h c d;go_wp2_with fail;go_roundw
   case rel=>exact⟨a+1,by omega,by go_num,s _,k⟩
   case measure=>simp[intOf];omega
 ·obtain rfl:a=len:=by omega
  have z:Hid (gD n nm l=none):=by
   show _=_;rw[c.out.2,pJ (by omega)];rfl
  have HB:=aq c.1;clear c;go_wp2_with fail
  go_ret
  exact⟨bY (by rw[z.out];rfl),HB⟩
theorem bz.knows(a:bz p s d w)(nm:ap):ao 41 #[aH p.b,af nm] w λe w'=>e=.returned (.bool (lL p.n p.prog nm))/\am w w':=
 Ef (p.n+1) nm p.prog p.pa p.pc p.prog.length w.heap.size p.b w rfl (aF a.pg.2.1 a.pg.2.2.1) (av _) a.lo.2 a.cells.1 a.pg.1.1
end
theorem oD{g:Type}{k j:Int}(d:j≠k):(l:List (Int×g))->(l.eraseP λp=>p.1==k).find? (λp=>p.1==j)=l.find? λp=>p.1==j
 | []=>rfl
 | a::l=>by
  rw[List.eraseP_cons];by_cases b:a.1=k
  ·have c:(a.1==k)=true:=by simpa using b
   have f:(a.1==j)=false:=by simp[b];exact λe=>d e.symm
   simp[c,f]
  ·have c:(a.1==k)=false:=by simpa using b
   simp only[c,cond_false,fG];rw[oD d l]
theorem xU{g:Type}{k:Int}:(l:List (Int×g))->(l.map (·.1)).Nodup->(l.eraseP λp=>p.1==k).find? (λp=>p.1==k)=none
 | [],_=>rfl
 | a::l,hn=>by
  rw[aV,lh]at hn;rw[List.eraseP_cons];by_cases b:a.1=k
  ·have c:(a.1==k)=true:=by simpa using b
   simp only[c,cond_true];refine kZ.2 λf e=>?_;simp only[co];intro d;exact hn.1 (cm.2 ⟨f,e,d.trans b.symm⟩)
  ·have c:(a.1==k)=false:=by simpa using b
   simp only[c,cond_false,fG];exact xU l hn.2
def eu(a:Nat)(d b:gz)(w w':ag):Prop:=bB (λq=>d.ow q<0) w w'/\(∀q,q<w.heap.size->b.ow q=d.ow q)/\b.k=d.k/\b.es.length<=d.es.length+a/\b.wn<=d.wn+a/\b.bn<=d.bn+a
theorem eu.trans{a b:Nat}{d d1 d2:gz}{w w1 w2:ag}(i:eu a d d1 w w1)(k:eu b d1 d2 w1 w2):eu (a+b) d d2 w w2:=by
 obtain⟨g,h,j,o,p,q⟩:=i;obtain⟨l,m,n,s,t,u⟩:=k;have r:=g.size;exact⟨g.trans l λc e f=>by rw[h c e]at f;exact f,λc e=>(m c (by omega)).trans (h c e),n.trans j,by omega,by omega,by omega⟩
theorem eu.mono{a b:Nat}{d d1:gz}{w w1:ag}(c:eu a d d1 w w1)(k:a<=b):eu b d d1 w w1:=by
 obtain⟨e,f,g,h,i,j⟩:=c;exact⟨e,f,g,by omega,by omega,by omega⟩
theorem eu.later(d:gz){w w1:ag}(a:am w w1):eu 0 d d w w1:=⟨aR a _,λ_ _=>rfl,rfl,av _,av _,av _⟩
theorem zo.up{p:lB}{s:Sy}{d:gz}{wt:ap}{a b:Int}{t:Tc}{w w':ag}(f:bz p s d w)(k:zo p s d wt a b t w w'):∃e,bz p (s.tell wt a b t) e w'/\eu 1 d e w w':=by
 obtain⟨l,m,g,h⟩:=k;refine⟨_,g,h.mono λi _ c=>?_,λi j=>if_neg (by omega),rfl,by simp,fI _,fI _⟩;rcases c with c|c
 ·rw[c,f.own];decide
 ·rw[c];decide
section
variable {p:lB} {s:Sy} {d:gz} {w:ag}
theorem bz.del(a:bz p s d w)(k:Int):∃w',(∀ty,(Builtin.delete_ #[67,3] ty #[.map d.po,ab k]).run Tryz.prog w=.ok (.tuple #[]) w')/\bz p {s with ps:=s.ps.eraseP λq=>q.1==k} {d with l:=d.l.eraseP λq=>q.1==k} w'/\bB (λq=>d.ow q=-5/\q≠p.b) w w':=by
 have I:(d.l.eraseP λq=>q.1==k).map (·.1)=(s.ps.eraseP λq=>q.1==k).map (·.1):=by
  have e:=congrArg (λl=>l.eraseP (λq=>q==k)) a.keys.1;simpa [List.eraseP_map,Function.comp_def]using e
 obtain⟨D,r,E,F,G,H⟩:=a.keys;have K:(d.l.map (·.1)).Nodup:=by rw[D];exact r
 have u:∀(w':ag),bB (λq=>d.ow q=-5/\q≠p.b) w w'->((d.po=none/\d.l.eraseP (λq=>q.1==k)=[])\/∃mb,d.po=some mb/\d.ow mb=-5/\mb≠p.b/\IM w' mb (d.l.eraseP λq=>q.1==k))->bz p {s with ps:=s.ps.eraseP λq=>q.1==k} {d with l:=d.l.eraseP λq=>q.1==k} w':=λw' c L=>by
  have h:∀b,d.ow b≠0->d.ow b=d.ow b:=λ_ _=>rfl;have x:∀b,d.ow b≠0->p.lo<=b/\b<w'.heap.size:=λb q=>⟨(a.low b q).1,aW (a.low b q).2 c.size⟩;have j:w'.heap[p.b]?=some (.cells (ez p s d) 74):=(c.block p.b a.lo.2 λm=>m.2 rfl).trans a.box;have t:∀{t:Int},t≠ -5->∀b,d.ow b=t->¬(d.ow b=-5/\b≠p.b):=λN b e m=>N (e.symm.trans m.1);obtain⟨y1,y2,S⟩:=a.wyK c (t (by decide)) h rfl (qS j).1;obtain⟨f,g⟩:=a.evK c (t (by decide)) h;refine⟨x,j,a.own,⟨a.pgK c (t (by decide)) h,a.pg.2⟩,L,⟨I,?_,λq M=>E q (List.mem_of_mem_eraseP M),F,G,?_⟩,λi b q=>?_,⟨y1,y2,a.wy.2.2.1,a.wy.2.2.2.1,S⟩,a.bdK c (t (by decide)) h rfl (qS j).2,f,a.evt.1,g⟩
  ·exact(r.sublist ((List.eraseP_sublist (l:=s.ps) (p:=λq=>q.1==k)).map _))
  ·exact aF (List.length_eraseP_le) H
  ·have v:i≠k:=λe=>by
     subst e;have:df (d.l.eraseP λq=>q.1==i) i=none:=by unfold df;rw[xU d.l K];rfl
     rw[this]at q;cases q
   have y:df d.l i=some b:=by
    unfold df at q ⊢;rw[oD v]at q;exact q
   obtain⟨O,A,z,o,C⟩:=a.psK c (av _) (t (by have:=(a.key y).1;omega)) h x y;refine⟨O,A,z,?_,C⟩;unfold Sy.get at o ⊢;rw[oD v];exact o
 rcases a.pm with⟨f,g⟩|⟨mb,f,g,n,B⟩
 ·refine⟨w,?_,u w (bB.refl _ _) (aj ⟨f,by rw[g];rfl⟩),bB.refl _ _⟩;have J:=underlying67;intro ty;rw[f];simp[Builtin.delete_,cu J,lI,Result.andThen]
 ·obtain⟨w',P,Q,R,_⟩:=xh.del B underlying67 k;have c:bB (λq=>d.ow q=-5/\q≠p.b) w w':=R.mono λq _ e=>by rw[e];exact⟨g,n⟩
  exact⟨w',λty=>by rw[f];exact P ty,u w' c (ak ⟨mb,f,g,n,Q⟩),c⟩
theorem G2(a:Nat)(mo:Option Nat)(x how:Int)(w w1:ag)(R:ag->Prop)(d:Hid (ah w a 3 (.map mo)))(h:∀ty,(Builtin.delete_ #[67,3] ty #[.map mo,ab x]).run Tryz.prog w=.ok (.tuple #[]) w1)(f:Hid (ao 46 #[aH a,af ⟨#[101,110,100]⟩,ab x,ab how,.agg #[ab 0,ab 0,af ⟨#[]⟩,ae none 0 0]] w1 λe w'=>e=.returned (.tuple #[])/\R w')):ao 80 #[aH a,ab x,ab how] w λe w'=>e=.returned (.tuple #[])/\R w':=by
 have g:=d.out;go_enter func80,ntmps80;go_wp2_with fail;refine f.mono ?_;rintro e i ⟨rfl,b⟩;have c:=aq b;clear b;go_wp2_with fail;exact dG (v:=.tuple #[]) (by simp[results]) rfl ⟨rfl,c⟩
theorem bz.drop(g:bz p s d w)(x how:Int)(k:d.es.length<=100000):ao 80 #[aH p.b,ab x,ab how] w λe w'=>e=.returned (.tuple #[])/\Hid (∃c,bz p (s.drop x how) c w'/\eu 1 d c w w'):=by
 obtain⟨f,m,h,n⟩:=g.del x;refine G2 p.b d.po x how w f _ g.cells.2.2.2 m ((h.tell tF x how 0 0 ⟨#[]⟩ none 0 0 sE (Kb f) k).mono λe w' a=>⟨a.1,?_⟩);obtain⟨c,i,j⟩:=a.2.up h;have o:eu 0 d {d with l:=d.l.eraseP λa=>a.1==x} w f:=⟨n.mono λa _ e=>by rw[e.1];decide,λ_ _=>rfl,rfl,av _,av _,av _⟩;exact⟨c,i,(o.trans j).mono (av _)⟩
end
theorem NH{w:ag}{base:Nat}{e:TypeId}{sz:Nat}{v:ar}{n:Nat}{xs:List ar}(b:w.ownsRow base e sz v n xs):∃a c,v=ae a n c:=by
 rcases b.2 with⟨rfl,rfl⟩|⟨g,c,d,rfl,_⟩
 ·exact⟨none,0,rfl⟩
 ·exact⟨_,c,rfl⟩
section
variable {p:lB} {s:Sy} {d:gz} {w:ag}
theorem bz.parted(a:bz p s d w){x:Int}(u:dI x)(h:Bool):ao 81 #[.pointer (some ⟨p.b,5,none⟩),ab x,.bool h] w λe w'=>∃v,e=.returned v/\Hid (ja w.heap.size v (pX s.bonds x h) w'/\bz p {s with bonds:=wo s.bonds (x::pX s.bonds x h)} d w'/\eu 0 d d w w'):=by
 refine(JR a.bd.1 a.bd.2.1 u h).mono ?_;rintro e w' ⟨v,rfl,l⟩;obtain⟨o,q,c⟩:=l;have f:∀b,d.ow b≠0->d.ow b=d.ow b:=λ_ _=>rfl;have j:∀b,d.ow b≠0->p.lo<=b/\b<w'.heap.size:=λb g=>⟨(a.low b g).1,aW (a.low b g).2 c.size⟩;have t:∀{t:Int},t≠ -2->∀b,d.ow b=t->¬d.bo=some b:=λr b e z=>r (e.symm.trans (a.bd.2.2 b z));have i:w'.heap[p.b]?=some (.cells (ez p s d) 74):=(c.block p.b a.lo.2 (t (by decide) p.b a.own)).trans a.box;obtain⟨y1,y2,y⟩:=a.wyK c (t (by decide)) f rfl (qS i).1;obtain⟨m,n⟩:=a.evK c (t (by decide)) f;exact⟨v,rfl,o,⟨j,i,a.own,⟨a.pgK c (t (by decide)) f,a.pg.2⟩,a.pmK c (λb e _=>t (by decide) b e) f,a.keys,λk b g=>a.psK c (av _) (t (by have:=(a.key g).1;omega)) f j g,⟨y1,y2,a.wy.2.2.1,a.wy.2.2.2.1,y⟩,⟨q,a.bd.2.1.wo _,a.bd.2.2⟩,m,a.evt.1,n⟩,c.mono λb _ e=>by rw[a.bd.2.2 b e];decide,λ_ _=>rfl,rfl,av _,av _,av _⟩
theorem M4{g:Int×Int->Bool}(b:AY g)(x:Int)(a:Bool):(pX g x a).length<=99:=by
 unfold pX;split
 ·simp
 ·exact(Fa b x).le
theorem Ko(b:Nat)(x how:Int)(w:ag)(l:List Int)(L:Nat)(h:Bool)(R:au->Nat->Nat->ag->Prop)(D:L<=99)(z:Hid (l.length=L))(s:h=(how==1))(o:Hid (ao 80 #[aH b,ab x,ab how] w λe w'=>e=.returned (.tuple #[])/\Hid (ao 81 #[.pointer (some ⟨b,5,none⟩),ab x,.bool h] w' λe w'=>∃a c,e=.returned (ae a L c)/\Hid (R a c 0 w'))))(A:Hid (∀a c j W,R a c j W->(∀(i:Nat)(k:Int),l[i]?=some k->∃g,a=some ⟨g,0,none⟩/\ah W g i (ab k))/\∀y,l[j]?=some y->ao 80 #[aH b,ab y,ab 4] W λe w'=>e=.returned (.tuple #[])/\Hid (R a c (j+1) w'))):ao 48 #[aH b,ab x,ab how] w λe w'=>e=.returned (.tuple #[])/\Hid (∃a c,R a c L w'):=by
 go_enter func48,ntmps48;go_wp2_with fail;refine o.mono ?_;rintro e I ⟨rfl,n⟩;have E:(how==1)=h:=s.symm;clear o s;go_wp2_with fail;refine n.mono ?_;rintro e J ⟨a,c,rfl,d⟩;clear n;go_wp2_with fail;go_loopw [7,20] (λ_ i wr=>∃j:Nat,j<=L/\i=ab j/\Hid (R a c j wr)) (λ_ i _=>L-(intOf i).toNat)
 case atStart=>exact⟨0,aM _,rfl,d⟩
 case round=>
 obtain⟨j,F,rfl,f⟩:=hrel;by_cases C:j<L
 ·obtain⟨y,m⟩:∃y,l[j]?=some y:=⟨l[j]'(by rw[z.out];exact C),aN _⟩;obtain⟨q,r⟩:=A a c j wr f;obtain⟨g,rfl,B⟩:=q j y m;have p:=aq (r y m);have G:(0:Int)<=(j:Int):=by omega
  have H:(j:Int)<(L:Int):=by omega
  clear q r m d;go_wp2_with fail;refine p.mono ?_;rintro e K ⟨rfl,t⟩;clear p B;go_wp2_with fail;go_roundw
  case rel=>exact⟨j+1,by omega,by go_num,t⟩
  case measure=>simp[intOf];omega
 ·obtain rfl:j=L:=by omega
  have u:=aq f.out;clear f d;go_wp2_with fail;exact dG (v:=.tuple #[]) (by simp[results]) rfl ⟨rfl,a,c,u⟩
theorem bz.fin(F:bz p s d w){x how:Int}(O:dI x)(ad:d.es.length<=99000):ao 48 #[aH p.b,ab x,ab how] w λe w'=>e=.returned (.tuple #[])/\Hid (∃h,bz p (s.fin x how) h w'/\eu 100 d h w w'):=by
 have I:=M4 F.bd.2.1 x (how==1);obtain⟨l,z⟩:∃l,l=pX s.bonds x (how==1):=⟨_,rfl⟩;rw[<-z]at I;refine(Ko p.b x how w l l.length (how==1) (λf c B n=>∃h base,bz p ((l.take B).foldl (λs D=>s.drop D 4) {s.drop x how with bonds:=wo s.bonds (x::l)}) h n/\eu (1+B) d h w n/\ja base (ae f l.length c) l n/\∀a,(Value.slice f l.length c).ownBlock=some a->h.ow a=0) I rfl rfl ?_ ?_).mono ?_
 ·refine(F.drop x how (by omega)).mono ?_;rintro e ai ⟨rfl,m⟩;obtain⟨d1,G,S⟩:=m.out;refine⟨rfl,(G.parted O (how==1)).mono ?_⟩;rintro e aj ⟨T,rfl,L⟩;obtain⟨v,K,R⟩:=L;have i:(s.drop x how).bonds=s.bonds:=rfl;rw[i,<-z]at v K;obtain⟨f,c,rfl⟩:∃f c,T=ae f l.length c:=NH v;refine⟨f,c,rfl,d1,_,K,(S.trans R).mono (by omega),v,λa A=>?_⟩;have aa:=(v.lt a A).1;by_cases H:d1.ow a=0
  ·exact H
  ·have:=(G.low a H).2;omega
 ·rintro f c B n ⟨h,base,r,t,u,E⟩;refine⟨λP k o=>?_,λD J=>?_⟩
  ·obtain⟨V,W,e,q⟩:=u.row;injection e with i _ y;subst i y;rcases u.2 with⟨e,M⟩|⟨g,X,Y,e,_⟩
   ·rw[bI M]at o;simp at o
   ·injection e with i _ y;subst i y;rcases q with q|⟨Z,ah,e,ag,q⟩
    ·rw[q]at o;simp at o
    ·injection e with e;injection e with i N;subst i N;have:=q P k o;rw[cP]at this;exact⟨_,rfl,this⟩
  ·have af:=(aY.1 J).1;refine(r.drop D 4 (by have:=t.2.2.2.1;omega)).mono ?_;rintro e w' ⟨rfl,m⟩;obtain⟨d2,Q,C⟩:=m.out;have A:∀a,(Value.slice f l.length c).ownBlock=some a->a<n.heap.size:=λa j=>(u.lt a j).2;refine⟨rfl,d2,base,?_,(t.trans C).mono (by omega),bw u C.1 λa j U=>by rw[E a j]at U;omega,λa j=>(C.2.1 a (A a j)).trans (E a j)⟩;rw[dA,J,jA];exact Q
 ·rintro e w' ⟨rfl,m⟩;obtain⟨f,c,h,base,r,t,_⟩:=m;refine⟨rfl,h,?_,t.mono (by omega)⟩;rw[bA (av _)]at r;unfold Sy.fin;rw[<-z];exact r
end
section
variable {p:lB} {s:Sy} {d:gz} {w:ag}
theorem bz.linkB(c:bz p s d w){x y:Int}(I:dI x)(J:dI y)(E:d.bn<1000000):ao 122 #[.pointer (some ⟨p.b,5,none⟩),ab x,ab y] w λe w'=>e=.returned (ab (vQ x y))/\Hid (∃o,bz p {s with bonds:=if vQ x y=0 then fF s.bonds (jn x y) true else s.bonds} o w'/\eu 1 d o w w'):=by
 refine(GI c.bd.1 I J E).mono ?_;rintro e w' ⟨rfl,z⟩;obtain⟨mo,f,g,C⟩:=z;have G:=g.size;have i:∀b,MN (Ov p s d) d.bo b->b=p.b\/d.ow b=-2:=λb e=>e.imp id (c.bd.2.2 b);have F:mo≠some p.b:=λe=>by
  subst e;exact f.ne rfl
 have t:∀{t:Int},t≠ -2->t≠ -5->∀b,d.ow b=t->¬MN (Ov p s d) d.bo b:=λf D b e a=>by
  rcases i b a with a|a
  ·rw[a,c.own]at e;exact D e.symm
  ·exact f (e.symm.trans a)
 have q:w'.heap[p.b]?=some (.cells (ez p {s with bonds:=if vQ x y=0 then fF s.bonds (jn x y) true else s.bonds} {d with ow:=Gb d w w' (-2),bo:=mo,bn:=d.bn+1}) 74):=by
  have:=f.2.1.2;simpa [Ov,ez]using this
 have v:=uH (t:=-2) c G c.lo.1;have h:=uI (w':=w') (t:=-2) c;obtain⟨A,B⟩:=qS q;obtain⟨y1,y2,M⟩:=c.wyK g (t (by decide) (by decide)) h rfl A;obtain⟨l,m⟩:=c.evK g (t (by decide) (by decide)) h;refine⟨rfl,{d with ow:=Gb d w w' (-2),bo:=mo,bn:=d.bn+1},⟨v,q,(h p.b (by rw[c.own];decide)).trans c.own,⟨c.pgK g (t (by decide) (by decide)) h,c.pg.2⟩,c.pmK g (λb l m a=>?_) h,c.keys,λk b j=>c.psK g (av _) (t (by have:=(c.key j).1;omega) (by have:=(c.key j).1;omega)) h v j,⟨y1,y2,c.wy.2.2.1,c.wy.2.2.2.1,M⟩,⟨?_,?_,λb e=>?_⟩,l,c.evt.1,m⟩,g.mono λb _ e=>?_,λj N=>if_neg (by omega),rfl,fI _,fI _,av _⟩
 ·rcases i b a with a|a
  ·exact m a
  ·rw[l]at a;cases a
 ·exact⟨f.1,B,f.2.2⟩
 ·show AY (if vQ x y=0 then fF s.bonds (jn x y) true else s.bonds);split
  ·rename_i n;intro k r;by_cases u:k=jn x y
   ·subst u;unfold vQ at n;split at n
    ·rename_i H;obtain⟨K,L,O⟩:=H;simp only[oy,aK,cr]at K L;unfold jn;simp only;omega
    ·cases n
   ·rw[bH _ _ u]at r;exact c.bd.2.1 k r
  ·exact c.bd.2.1
 ·rcases C b (ak e)with a|a
  ·rcases i b a with a|a
   ·subst a;exact absurd e F
   ·exact(h b (by rw[a];decide)).trans a
  ·have:=(f.lt b (ak e)).2;exact if_pos ⟨a,this⟩
 ·rcases i b e with a|a
  ·rw[a,c.own];decide
  ·rw[a];decide
theorem Nu(d:Nat)(a b:Int)(r:Bool)(v:Int)(w:ag)(R:ag->Prop)(f:Hid (ao 51 #[aH d,ab b] w λe w'=>e=.returned (.bool r)/\w'=w))(i:Hid (r=false->R w))(j:Hid (r=true->ao 122 #[.pointer (some ⟨d,5,none⟩),ab a,ab b] w λe w'=>e=.returned (ab v)/\Hid (R w'))):ao 83 #[aH d,ab a,ab b] w λe w'=>e=.returned (.tuple #[])/\Hid (R w'):=by
 go_enter func83,ntmps83;go_wp2_with fail;refine f.mono ?_;rintro e k ⟨rfl,g⟩;obtain rfl:=g.symm;clear g f;cases r
 ·have c:=aq (i rfl);go_wp2_with fail;exact dG (v:=.tuple #[]) (by simp[results]) rfl ⟨rfl,c⟩
 ·have c:=aq (j rfl);go_wp2_with fail;refine c.mono ?_;rintro e l ⟨rfl,h⟩;go_wp2_with fail;exact dG (v:=.tuple #[]) (by simp[results]) rfl ⟨rfl,h⟩
theorem bz.link(f:bz p s d w){a b:Int}(g:dI a)(h:dI b)(i:d.bn<1000000):ao 83 #[aH p.b,ab a,ab b] w λe w'=>e=.returned (.tuple #[])/\Hid (∃c,bz p (s.link a b) c w'/\eu 1 d c w w'):=by
 refine Nu p.b a b (s.get b).isSome (vQ a b) w (λw'=>∃c,bz p (s.link a b) c w'/\eu 1 d c w w') (f.isAlive b) (λe=>⟨d,?_,(eu.later d (aA _ _)).mono (aM _)⟩) λe=>?_
 ·unfold Sy.link;rw[e];exact f
 ·unfold Sy.link;rw[e];exact f.linkB g h i
end
section
variable {p:lB} {s:Sy} {d:gz} {w:ag}
theorem LD{m:Nat}{x:Tm (m+1)}(c:bG (m+1) x=0)(a b:Int)(L:Nat):mn 12 a b (aZ 13 (m+1) x) L=mn 12 a b (cn (m+1) x) L:=by
 have f:aJ ⟨m+1,x⟩:=aU.2 (bJ.1 c).1;have e:=jN 13 (m+1) x f (by have:=(bJ.1 c).2.1;omega);have d:=eD c;unfold mn;rw[bZ e,cO _ _ _ _ e,bZ d,cO _ _ _ _ d]
theorem bz.sendW(g:bz p s d w){a b:Int}(ai:I2 (a,b)){m:Nat}(x:Tm (m+1))(ap:In w.heap.size w (m+1) x)(A:bG (m+1) x=0)(al:d.wn<999999):ao 121 #[.pointer (some ⟨p.b,4,none⟩),ab a,ab b,dB (m+1) x] w λe w'=>e=.returned (ab (mn 12 a b (cn (m+1) x) (s.ways (a,b)).length))/\Hid (∃o,bz p (if mn 12 a b (cn (m+1) x) (s.ways (a,b)).length=0 then {s with ways:=fF s.ways (a,b) (s.ways (a,b)++ [cn (m+1) x])}else s) o w'/\eu 1 d o w w'):=by
 have Y:aJ ⟨m+1,x⟩:=aU.2 (bJ.1 A).1;have U:fP (m+1) x<13:=by have:=(bJ.1 A).2.1;omega
 have Z:=jN 13 (m+1) x Y U;have V:(d.f (a,b)).length=(s.ways (a,b)).length:=by
  have:=congrArg List.length (g.wy.2.2.1 (a,b));simpa using this
 have ax:(d.f (a,b)).length<=20:=g.wy.2.2.2.1 _;have an:dB (m+1) x=dB (12+1) (aZ 13 (m+1) x):=(Ab 12 m x).symm;rw[an];have S:bG 13 (aZ 13 (m+1) x)=0:=(bZ Z).trans A;refine(LF (N:=12) g.wy.1 ai (aZ 13 (m+1) x) (sZ 13 (m+1) x _ _ Y U ap) (fw S) al (by omega)).mono ?_;rintro e w' ⟨rfl,y,P⟩;rw[V,LD A]at y P ⊢;refine⟨rfl,?_⟩;by_cases j:mn 12 a b (cn (m+1) x) (s.ways (a,b)).length=0;rotate_left
 ·rw[if_neg j];exact⟨d,g.later (y j),(eu.later d (y j)).mono (aM _)⟩
 rw[if_pos j];obtain⟨n,mo,sl,aa,C,r,K,ad,aq⟩:=P j;have Q:aT 13 (cn (m+1) x)=true/\(s.ways (a,b)).length<20:=by
  unfold mn gL at j;split at j
  ·cases j
  ·split at j
   ·rename_i i;exact absurd j i
   ·split at j
    ·cases j
    ·rename_i i;split at j
     ·cases j
     ·exact⟨by simpa using i,by omega⟩
 have R:cn 13 n=cn (m+1) x:=(iF aa).trans (iF Z);have T:bG 13 n=0:=(bZ aa).trans S;have aj:aT 13 n=true:=by
  have:=cO _ _ _ _ (eD T);rw[R]at this;exact this.symm.trans Q.1
 have am:=r.size;have B:=g.wy.2.1;have t:∀{t:Int},t≠ -1->t≠ -5->∀b,d.ow b=t->¬sD (AV p s d) d.wo d.sl b:=λy ah b e c=>by
  rcases B b c with c|c
  ·rw[c,g.own]at e;exact ah e.symm
  ·exact y (e.symm.trans c)
 obtain⟨o,v⟩:∃o,o={d with ow:=Gb d w w' (-1),wo:=mo,wn:=d.wn+1,f:=fF d.f (a,b) (d.f (a,b)++ [n]),sl:=sl}:=⟨_,rfl⟩;obtain⟨E,I⟩:∃E,E={s with ways:=fF s.ways (a,b) (s.ways (a,b)++ [cn (m+1) x])}:=⟨_,rfl⟩;have H:w'.heap[p.b]?=some (.cells (ez p E o) 74):=by
  have:=C.2.1.2;rw[I,v];simpa [AV,ez]using this
 have W:=uH (t:=-1) g am g.lo.1;have q:=uI (w':=w') (t:=-1) g;obtain⟨M,O⟩:=qS H;rw[v]at O;have ay:∀h,sD (AV p E o) mo sl h->sD (AV p s d) d.wo d.sl h\/w.heap.size<=h:=K;obtain⟨F,G⟩:=g.evK r (t (by decide) (by decide)) q;refine⟨o,?_,?_⟩
 ·rw[<-I,v];rw[I]at*;refine⟨W,by rw[v]at H;exact H,(q p.b (by rw[g.own];decide)).trans g.own,⟨g.pgK r (t (by decide) (by decide)) q,g.pg.2⟩,g.pmK r (λb F G c=>?_) q,g.keys,λk b h=>g.psK r (av _) (t (by have:=(g.key h).1;omega) (by have:=(g.key h).1;omega)) q W h,⟨?_,λh c=>?_,λk=>?_,λk=>?_,λk c i=>?_⟩,g.bdK r (t (by decide) (by decide)) q rfl O,F,g.evt.1,G⟩
  ·rcases B b c with c|c
   ·exact G c
   ·rw[F]at c;cases c
  ·rw[v]at M;exact⟨C.1,M,C.2.2⟩
  ·rcases K h c with z|z
   ·exact(B h z).imp id λe=>(q h (by rw[e];decide)).trans e
   ·exact ak (if_pos ⟨z,(C.lt h c).2⟩)
  ·by_cases l:k=(a,b)
   ·subst l;show (fF d.f (a,b) (d.f (a,b)++ [n]) (a,b)).map (cn 13)=fF s.ways (a,b) (s.ways (a,b)++ [cn (m+1) x]) (a,b);rw[cw,cw,gQ,g.wy.2.2.1,aV,cC,R]
   ·show (fF d.f (a,b) (d.f (a,b)++ [n]) k).map (cn 13)=fF s.ways (a,b) (s.ways (a,b)++ [cn (m+1) x]) k;rw[bH _ _ l,bH _ _ l];exact g.wy.2.2.1 k
  ·by_cases l:k=(a,b)
   ·subst l;show (fF d.f (a,b) (d.f (a,b)++ [n]) (a,b)).length<=20;rw[cw,bt,V];have:=Q.2;simp;omega
   ·show (fF d.f (a,b) (d.f (a,b)++ [n]) k).length<=20;rw[bH _ _ l];exact g.wy.2.2.2.1 k
  ·have i:c∈fF d.f (a,b) (d.f (a,b)++ [n]) k:=i;have X:∀J,∀c∈d.f J,bG 13 c=0/\aT 13 c=true/\In w'.heap.size w' 13 c/\cv (λh=>Gb d w w' (-1) h=-1/\¬sD (AV p s d) mo sl h) 13 c:=λJ c i=>by
    obtain⟨ar,au,ae,aw⟩:=g.wy.2.2.2.2 J c i;have af:=eE r (D:=λh=>(d.ow h=-1/\¬sD (AV p s d) d.wo d.sl h)/\h<w.heap.size) (λh z L=>z.1.2 L) ⟨ae,In.offB aw ae⟩;refine⟨ar,au,af.1,af.2.mono λh u=>⟨(q h (by rw[u.1.1];decide)).trans u.1.1,λL=>?_⟩⟩;rcases K h L with ag|ag
    ·exact u.1.2 ag
    ·omega
   by_cases l:k=(a,b)
   ·subst l;rw[cw]at i;rcases cY.1 i with i|i
    ·exact X _ c i
    ·obtain rfl:=dx.1 i;exact⟨T,aj,ad,(In.offB aq ad).mono λh u=>⟨if_pos ⟨u.1.1,u.2⟩,u.1.2⟩⟩
   ·rw[bH _ _ l]at i;exact X _ c i
 ·rw[v]
  exact⟨r.mono λb _ e=>by
   rcases B b e with c|c
   ·rw[c,g.own];decide
   ·rw[c];decide,λh az=>if_neg (by omega),rfl,fI _,av _,fI _⟩
end
theorem dp{w w':ag}(b:am w w'){q:Nat}{o:Obj}(a:w.heap[q]?=some o):w'.heap[q]?=some o:=(b.block q (aI.1 a).1).trans a
theorem EW(x:Nat)(a b c d:Int)(f:ap)(xa:au)(g xc:Nat)(v:Int)(w:ag)(C R:ag->Prop)(A:Hid (∀W,am w W->ao 121 #[.pointer (some ⟨x,4,none⟩),ab a,ab b,.agg #[ab c,ab d,af f,ae xa g xc]] W λe w'=>e=.returned (ab v)/\Hid (C w'/\∀q,w.heap.size<=q->q<W.heap.size->w'.heap[q]?=W.heap[q]?)))(B:Hid (∀W,C W->ao 46 #[aH x,af (if v=0 then ⟨#[115,101,110,100]⟩else ⟨#[108,111,115,116]⟩),ab a,ab b,.agg #[ab c,ab d,af f,ae xa g xc]] W λe w'=>e=.returned (.tuple #[])/\Hid (R w'))):ao 82 #[aH x,ab a,ab b,.agg #[ab c,ab d,af f,ae xa g xc]] w λe w'=>e=.returned (.tuple #[])/\Hid (R w'):=by
 go_enter func82,ntmps82;go_upto_region 1 with fail;generalize D:w.alloc _=h;have n:Hid (am w h/\h.heap[w.heap.size]?=some (.cells #[ab c,ab d,af f,ae xa g xc] 31)):=by
  rw[<-D];exact⟨aS _ _,aD _ _⟩
 clear D;obtain⟨q,m⟩:∃q,q=w.heap.size:=⟨_,rfl⟩;rw[<-m];have s:Hid (h.heap[q]?=some (.cells #[ab c,ab d,af f,ae xa g xc] 31)):=by rw[m];exact n.2
 have HB:=aq n.1;have E:=aq m;clear m n;have r:Hid (am h h.drew):=(aA _ _).drew;have z:=aq (HB.trans (r.mono HB.size));have k:=aq (dp r s);have i:Hid (∀W:ag,W.heap[q]?=some (.cells #[ab c,ab d,af f,ae xa g xc] 31)->ah W q 0 (ab c)/\ah W q 1 (ab d)/\ah W q 2 (af f)/\ah W q 3 (ae xa g xc)):=λW l=>⟨ai l 0,ai l 1,ai l 2,ai l 3⟩;obtain⟨F,G,H,I⟩:=i.out h s
 go_region_held3 (λW=>ah W q 0 (ab c)/\ah W q 1 (ab d)/\ah W q 2 (af f)/\ah W q 3 (ae xa g xc))
  (first|exact i _ k|exact i _ t) ((first
   | (go_at_call 121;refine(A _ z).mono ?_;rintro e y ⟨rfl,o⟩;have t:Hid (y.heap[q]?=some (.cells #[ab c,ab d,af f,ae xa g xc] 31)):=(o.2 q (by have:=E.out;omega) (aI.1 k).1).trans k)))
 obtain⟨d0,d1,d2,d3⟩:=i.out y t;have j:=aq (B y o.1);clear F G H I A B i o t k z r HB s;by_cases u:v=0
 ·subst u;rw[if_pos rfl]at j;go_wp2_with fail;refine j.mono ?_;rintro e J ⟨rfl,p⟩;go_wp2_with fail;exact dG (v:=.tuple #[]) (by simp[results]) rfl ⟨rfl,p⟩
 ·rw[if_neg u]at j;have K:(v==0)=false:=by simpa using u
  go_wp2_with fail;refine j.mono ?_;rintro e J ⟨rfl,p⟩;go_wp2_with fail;exact dG (v:=.tuple #[]) (by simp[results]) rfl ⟨rfl,p⟩
section
variable {p:lB} {s:Sy} {d:gz} {w:ag}
def Gs(d:gz)(w:ag){m:Nat}(x:Tm m):Prop:=In w.heap.size w m x/\cv (λq=>0<=d.ow q) m x
theorem Gs.up{a m:Nat}{x:Tm m}{f:gz}{w':ag}(c:Gs d w x)(k:eu a d f w w'):Gs f w' x:=by
 have g:=eE k.1 (D:=λb=>0<=d.ow b/\b<w.heap.size) (λb e h=>by omega) ⟨c.1,In.offB c.2 c.1⟩;exact⟨g.1,g.2.mono λb e=>by rw[k.2.1 b e.2];exact e.1⟩
theorem bz.send(o:bz p s d w){a b:Int}(z:I2 (a,b)){m:Nat}(x:Tm (m+1))(t:Gs d w x)(q:bG (m+1) x=0)(A:d.wn<999999)(D:d.es.length<100000):ao 82 #[aH p.b,ab a,ab b,dB (m+1) x] w λe w'=>e=.returned (.tuple #[])/\Hid (∃j,bz p (s.send a b (cn (m+1) x)) j w'/\eu 2 d j w w'):=by
 obtain⟨i,r⟩:∃i,i=mn 12 a b (cn (m+1) x) (s.ways (a,b)).length:=⟨_,rfl⟩;refine EW p.b a b x.1.1 x.1.2.1 x.1.2.2 x.2.1.1 x.2.2.length x.2.1.2 i w (λc=>∃d1,bz p (if i=0 then {s with ways:=fF s.ways (a,b) (s.ways (a,b)++ [cn (m+1) x])}else s) d1 c/\eu 1 d d1 w c) (λc=>∃j,bz p (s.send a b (cn (m+1) x)) j c/\eu 2 d j w c) (λc g=>?_) λc g=>?_
 ·refine((o.later g).sendW z x ((t.1.below g).mono g.size) q A).mono ?_;rintro e w' ⟨rfl,k⟩;rw[<-r]at k ⊢;obtain⟨d1,n,h⟩:=k.out;refine⟨rfl,⟨d1,n,((eu.later d g).trans h).mono (av _)⟩,λu C y=>h.1.block u y λE=>?_⟩;have:=(o.low u (by omega)).2;omega
 ·obtain⟨d1,n,h⟩:=g;have B:=t.up h;refine(n.tell (if i=0 then dQ else jX) a b x.1.1 x.1.2.1 x.1.2.2 x.2.1.1 x.2.2.length x.2.1.2 (cn (m+1) x) (kJ B.1 q) (by have:=h.2.2.2.1;omega)).mono ?_;rintro e w' ⟨rfl,k⟩;obtain⟨d2,f,v⟩:=k.up n;refine⟨rfl,d2,?_,(h.trans v).mono (av _)⟩;unfold Sy.send;rw[<-r];by_cases l:i=0
  ·rw[if_pos l]at f ⊢;rw[if_pos l]at f;exact f
  ·rw[if_neg l]at f ⊢;rw[if_neg l]at f;exact f
end
def gB(a c:Nat)(d b:gz)(w w':ag):Prop:=bB (λq=>d.ow q≠0) w w'/\(∀q,q<w.heap.size->b.ow q=d.ow q)/\b.k<=d.k+c/\b.es.length<=d.es.length+a/\b.wn<=d.wn+a/\b.bn<=d.bn+a
theorem gB.trans{a b c e:Nat}{d d1 d2:gz}{w w1 w2:ag}(j:gB a c d d1 w w1)(k:gB b e d1 d2 w1 w2):gB (a+b) (c+e) d d2 w w2:=by
 obtain⟨h,i,n,o,p,q⟩:=j;obtain⟨l,m,s,t,u,v⟩:=k;have r:=h.size;exact⟨h.trans l λf g e=>by rw[i f g]at e;exact e,λf g=>(m f (by omega)).trans (i f g),by omega,by omega,by omega,by omega⟩
theorem gB.mono{a b c e:Nat}{d d1:gz}{w w1:ag}(f:gB a c d d1 w w1)(m:a<=b)(n:c<=e):gB b e d d1 w w1:=by
 obtain⟨g,h,i,j,k,l⟩:=f;exact⟨g,h,by omega,by omega,by omega,by omega⟩
theorem eu.un{a:Nat}{d d1:gz}{w w1:ag}(b:eu a d d1 w w1):gB a 0 d d1 w w1:=⟨b.1.mono λq _ e=>by omega,b.2.1,by have:=b.2.2.1;omega,b.2.2.2⟩
theorem BB{c:Type}(k j:Int)(v:c):(l:List (Int×c))->(l.map λp=>if p.1=k then (k,v)else p).find? (λp=>p.1==j)=(l.find? λp=>p.1==j).map λp=>if p.1=k then (k,v)else p
 | []=>rfl
 | a::l=>by
  rw[aV,fG,fG,BB k j v l];by_cases b:a.1=k
  ·rw[if_pos b];simp only[b];cases k==j<;>simp[b]
  ·rw[if_neg b];cases a.1==j<;>simp[b]
theorem P1.lie2{a f:Nat}{name:ap}{room:Int}{cs:Tc}{c:List Tc}{k:Nat}{M:aO}{w:ag}(d:P1 a f name room cs c k M w):∀b,M b->a<=b/\b<w.heap.size:=by
 obtain⟨base,p,n,s,o,q,r,l,m,g,h,i,j,e⟩:=d;exact e
section
variable {p:lB} {s:Sy} {d:gz} {w:ag}
theorem FR(s:Sy)(k j:Int)(v:ap×Tc×List Tc):(s.put k v).get j=if j=k then (s.get k).map λ_=>v else s.get j:=by
 unfold Sy.put Sy.get;simp only;rw[BB];by_cases a:j=k
 ·subst a;rw[if_pos rfl];cases e:s.ps.find? (λp=>p.1==j)with
  | none=>rfl
  | some b=>
   have:=List.find?_some e;simp only[co]at this;simp[this]
 ·rw[if_neg a];cases e:s.ps.find? (λp=>p.1==j)with
  | none=>rfl
  | some b=>
   have:=List.find?_some e;simp only[co]at this;simp[this,a]
theorem vH(s:Sy)(k:Int)(v:ap×Tc×List Tc):(s.put k v).ps.map (·.1)=s.ps.map (·.1):=by
 unfold Sy.put;simp only[gR];refine jC λb _=>?_;by_cases a:b.1=k
 ·simp[a]
 ·simp[a]
theorem bz.turnP(a:bz p s d w){k:Int}{b:Nat}(y:df d.l k=some b){nm:ap}{cs m:Tc}{F i:List Tc}(S:s.get k=some (nm,cs,F)){w':ag}(e:bB (λq=>d.ow q=k) w w'){N:aO}{j:Nat}(Q:∀q,N q->d.ow q=k\/w.heap.size<=q)(T:d.k<=j)(x:P1 p.lo b nm p.room m i (j+201) N w')(P:i.length<=20):bz p (s.put k (nm,m,i)) {d with ow:=Gb d w w' k,k:=j} w'/\gB 0 (j-d.k) d {d with ow:=Gb d w w' k,k:=j} w w':=by
 have Z:=(a.key y).1;have v:=uH (t:=k) a e.size a.lo.1;have f:=uI (w':=w') (t:=k) a;have R:∀q,N q->p.lo<=q/\q<w'.heap.size:=P1.lie2 x;have t:∀{t:Int},t≠k->∀q,d.ow q=t->¬d.ow q=k:=λW q h g=>W (h.symm.trans g);have r:w'.heap[p.b]?=some (.cells (ez p s d) 74):=(e.block p.b a.lo.2 (t (by omega) p.b a.own)).trans a.box;obtain⟨y1,y2,Y⟩:=a.wyK e (t (by omega)) f rfl (qS r).1;obtain⟨G,H⟩:=a.evK e (t (by omega)) f;obtain⟨I,J,K,L,M,O⟩:=a.keys;have U:∀q∈(s.put k (nm,m,i)).ps,1<=q.1/\q.1<=s.last:=λq z=>by
  have:q.1∈(s.put k (nm,m,i)).ps.map (·.1):=cm.2 ⟨q,z,rfl⟩;rw[vH]at this;obtain⟨X,V,h⟩:=cm.1 this;rw[<-h];exact K X V
 refine⟨⟨v,r,(f p.b (by rw[a.own];decide)).trans a.own,⟨a.pgK e (t (by omega)) f,a.pg.2⟩,a.pmK e (λq h _=>t (by omega) q h) f,⟨by rw[vH];exact I,by rw[vH];exact J,U,L,M,by unfold Sy.put;simpa using O⟩,λn c q=>?_,⟨y1,y2,a.wy.2.2.1,a.wy.2.2.2.1,Y⟩,a.bdK e (t (by omega)) f rfl (qS r).2,G,a.evt.1,H⟩,e.mono λq _ h=>by rw[h];omega,λq z=>if_neg (by omega),by show j<=_;omega,av _,av _,av _⟩;by_cases u:n=k
 ·subst u;have q:df d.l n=some c:=q;rw[y]at q;obtain rfl:=az q;refine⟨nm,m,i,by rw[FR,if_pos rfl,S];rfl,x.mono (λq g=>?_) (av _) λq g=>v q (by have g:Gb d w w' n q=n:=g;rw[g];omega),P⟩;rcases Q q g with o|o
  ·exact(f q (by rw[o];omega)).trans o
  ·exact if_pos ⟨o,(R q g).2⟩
 ·obtain⟨A,B,C,D,E⟩:=a.psK e T (t u) f v q;exact⟨A,B,C,by rw[FR,if_neg u];exact D,E⟩
end
theorem IW(i K:Nat)(mo:Option Nat)(a b d f:Int)(g:ap)(xa:au)(h xc:Nat)(v:Int)(w:ag)(o R:ag->Prop)(U:i<w.heap.size)(L:Hid (ah w i 3 (.map mo)))(G:Hid (∀W,am w W->(Instr.lookup 67 (.map mo) (ab b) false).run Tryz.prog W=.ok (aH K) W))(H:Hid (∀W,am w W->ao 85 #[aH K,.agg #[ab d,ab f,af g,ae xa h xc]] W λe w'=>e=.returned (ab v)/\Hid (o w'/\∀q,w.heap.size<=q->q<W.heap.size->w'.heap[q]?=W.heap[q]?)))(n:Hid (v=2->∀W,o W->ao 46 #[aH i,af ⟨#[108,111,115,116]⟩,ab a,ab b,.agg #[ab d,ab f,af g,ae xa h xc]] W λe w'=>e=.returned (.tuple #[])/\Hid (R w')))(l:Hid (v=6->∀W,o W->ao 48 #[aH i,ab b,ab 3] W λe w'=>e=.returned (.tuple #[])/\Hid (R w')))(m:Hid (v≠2->v≠6->∀W,o W->R W)):ao 52 #[aH i,ab a,ab b,.agg #[ab d,ab f,af g,ae xa h xc]] w λe w'=>e=.returned (.tuple #[])/\Hid (R w'):=by
 go_enter func52,ntmps52;go_upto_region 1 with fail;generalize J:w.alloc _=c;have t:Hid (am w c/\c.heap[w.heap.size]?=some (.cells #[ab d,ab f,af g,ae xa h xc] 31)):=by
  rw[<-J];exact⟨aS _ _,aD _ _⟩
 clear J;obtain⟨q,s⟩:∃q,q=w.heap.size:=⟨_,rfl⟩;rw[<-s];have C:Hid (c.heap[q]?=some (.cells #[ab d,ab f,af g,ae xa h xc] 31)):=by rw[s];exact t.2
 have HB:=aq t.1;have M:=aq s;clear s t;have A:Hid (am c c.drew):=(aA _ _).drew;have y:=aq (HB.trans (A.mono HB.size));have D:=aq (dp A C);have z:Hid (∀W:ag,W.heap[q]?=some (.cells #[ab d,ab f,af g,ae xa h xc] 31)->ah W q 0 (ab d)/\ah W q 1 (ab f)/\ah W q 2 (af g)/\ah W q 3 (ae xa h xc)):=λW r=>⟨ai r 0,ai r 1,ai r 2,ai r 3⟩;obtain⟨N,O,P,Q⟩:=z.out c C;have S:ah c i 3 (.map mo):=(HB.cell (p:=⟨i,3,none⟩) U).trans L;have T:=G c.drew y
 go_region_with ((first
     | (go_at_call 85;refine(H _ y).mono ?_;rintro e k ⟨rfl,u⟩;have I:Hid (k.heap[q]?=some (.cells #[ab d,ab f,af g,ae xa h xc] 31)):=(u.2 q (by have:=M.out;omega) (aI.1 D).1).trans D)))
 all_goals
  obtain⟨d0,d1,d2,d3⟩:=z.out k I;have B:=aq u.1;clear N O P Q S T G H z u I D y A HB C;by_cases E:v=2
  ·subst E;have j:=aq (n (by simp) k B);clear n l m;go_wp2_with fail;refine j.mono ?_;rintro e V ⟨rfl,x⟩;go_wp2_with fail;exact dG (v:=.tuple #[]) (by simp[results]) rfl ⟨rfl,x⟩
  ·have X:(v==2)=false:=by simpa using E
   by_cases F:v=6
   ·subst F;have j:=aq (l (by simp) k B);clear n l m;go_wp2_with fail;refine j.mono ?_;rintro e V ⟨rfl,x⟩;go_wp2_with fail;exact dG (v:=.tuple #[]) (by simp[results]) rfl ⟨rfl,x⟩
   ·have Y:(v==6)=false:=by simpa using F
    have j:=aq (m E F k B);clear n l m;go_wp2_with fail;exact dG (v:=.tuple #[]) (by simp[results]) rfl ⟨rfl,j⟩
theorem M3{m:Nat}{x:Tm m}(a:bG m x=0)(room:Int)(s:Tc)(ms:List Tc):kB m x room s ms=kB 13 (cn m x) room s ms:=by
 have b:=eD a;unfold kB;rw[bZ b,cO _ _ _ _ b,FF a]
theorem Cr{d:Type}(k:Int)(v:d):(l:List (Int×d))->(l.map (·.1)).Nodup->(l.find? λp=>p.1==k).map (·.2)=some v->(l.map λp=>if p.1=k then (k,v)else p)=l
 | [],_,_=>rfl
 | a::l,hn,h=>by
  rw[aV,lh]at hn;rw[fG]at h;rw[aV];by_cases b:a.1=k
  ·have c:(a.1==k)=true:=by simpa using b
   rw[c]at h;have f:a.2=v:=by simpa using h
   rw[if_pos b];congr 1
   ·rw[<-f,<-b]
   ·refine(jC λi g=>?_).trans (List.map_id l);rw[if_neg λe=>hn.1 (cm.2 ⟨i,g,e.trans b.symm⟩)];rfl
  ·have c:(a.1==k)=false:=by simpa using b
   rw[c]at h;rw[if_neg b,Cr k v l hn.2 h]
theorem wv{s:Sy}{k:Int}{v:ap×Tc×List Tc}(b:(s.ps.map (·.1)).Nodup)(a:s.get k=some v):s.put k v=s:=by
 unfold Sy.put;rw[Cr k v s.ps b a]
section
variable {p:lB} {s:Sy} {d:gz} {w:ag}
theorem bz.deliver(h:bz p s d w){a b:Int}(W:dI b){nm:ap}{cs:Tc}{r:List Tc}(j:s.get b=some (nm,cs,r)){m:Nat}(x:Tm (m+1))(K:In w.heap.size w (m+1) x/\cv (λq=>¬1<=d.ow q) (m+1) x)(B:bG (m+1) x=0)(Z:d.k<=47000)(Y:d.es.length<=98000):ao 52 #[aH p.b,ab a,ab b,dB (m+1) x] w λe w'=>e=.returned (.tuple #[])/\Hid (∃z,bz p (s.deliver p.room a b (cn (m+1) x)) z w'/\gB 100 201 d z w w'):=by
 obtain⟨v,H⟩:∃v,df d.l b=some v:=by
  have:=h.alive b;rw[j]at this;cases e:df d.l b with
  | none=>rw[e]at this;cases this
  | some v=>exact⟨v,rfl⟩
 obtain⟨X,P,O,G,S,T⟩:=h.ps b v H;rw[j]at G;obtain⟨rfl,rfl,rfl⟩:nm=X/\cs=P/\r=O:=by
  injection G with G;injection G with I A;injection A with A R;exact⟨I,A,R⟩
 have M:=(h.key H).1;obtain⟨y,C⟩:∃y,y=kB 13 (cn (m+1) x) p.room cs r:=⟨_,rfl⟩;have aa:bG 13 (cn (m+1) x)=0:=(bZ (eD B)).trans B;refine IW p.b v d.po a b x.1.1 x.1.2.1 x.1.2.2 x.2.1.1 x.2.2.length x.2.1.2 y w (λg=>∃d1,bz p (if y=0 then s.put b (nm,cs,r++ [cn (m+1) x])else s.put b (nm,cs,r)) d1 g/\gB 0 201 d d1 w g/\In g.heap.size g (m+1) x) (λg=>∃z,bz p (s.deliver p.room a b (cn (m+1) x)) z g/\gB 100 201 d z w g) h.lo.2 h.cells.2.2.2 (λg f=>?_) (λg f=>?_) (λe g f=>?_) (λe g f=>?_) λI A g f=>?_
 ·have:=(h.later f).look b false;rw[H]at this;exact this
 ·have V:=S.later f;have N:=(K.1.below f).mono f.size;refine(V.deliver x N (K.2.mono λq t F=>t (by rw[show d.ow q=b from F];exact M)) (fw B) (by omega) (by omega) (aF h.lo.1 f.size)).mono ?_;rintro e w' ⟨rfl,u⟩;rw[M3 B,<-C]at u ⊢;obtain⟨c,n⟩:=u.out;have J:bB (λq=>d.ow q=b) g w':=⟨c.os,c.tape,c.output,c.size,c.block⟩;have U:(if y=0 then r++ [cn (m+1) x]else r).length<=20:=by
   split
   ·rename_i i;rw[C]at i;unfold kB at i;split at i
    ·cases i
    ·simp;omega
   ·exact T
  obtain⟨o,E⟩:=(h.later f).turnP H j J (λq t=>t.1) (show d.k<=d.k+201 by omega) n U;refine⟨rfl,⟨_,?_,(((eu.later d f).un.trans E).mono (av _) (by omega)),?_⟩,λq ad F=>J.block q F λt=>?_⟩
  ·split
   ·rename_i i;rw[if_pos i]at o;exact o
   ·rename_i i;rw[if_neg i]at o;exact o
  ·exact(eE J (D:=λq=>¬1<=d.ow q) (λq t F=>t (by rw[F];exact M)) ⟨N,K.2⟩).1
  ·have:=(h.low q (by rw[t];omega)).2;omega
 ·obtain⟨d1,c,n,L⟩:=f;rw[if_neg (by rw[e];decide),wv h.keys.2.1 j]at c;refine(c.tell jX a b x.1.1 x.1.2.1 x.1.2.2 x.2.1.1 x.2.2.length x.2.1.2 (cn (m+1) x) (kJ L B) (by have:=n.2.2.2.1;omega)).mono ?_;rintro Q w' ⟨rfl,u⟩;obtain⟨d2,o,E⟩:=u.out.up c;refine⟨rfl,d2,?_,(n.trans E.un).mono (by omega) (by omega)⟩;unfold Sy.deliver;rw[j];simp only;rw[<-C,if_pos e];exact o
 ·obtain⟨d1,c,n,L⟩:=f;rw[if_neg (by rw[e];decide),wv h.keys.2.1 j]at c;refine(c.fin (how:=3) W (by have:=n.2.2.2.1;omega)).mono ?_;rintro Q w' ⟨rfl,u⟩;obtain⟨d2,o,E⟩:=u;refine⟨rfl,d2,?_,(n.trans E.un).mono (by omega) (by omega)⟩;unfold Sy.deliver;rw[j];simp only;rw[<-C,if_neg (by rw[e];decide),if_pos e];exact o
 ·obtain⟨d1,c,n,L⟩:=f;refine⟨d1,?_,n.mono (by omega) (av _)⟩;unfold Sy.deliver;rw[j];simp only;rw[<-C,if_neg I,if_neg A];by_cases i:y=0
  ·rw[if_pos i]at c ⊢;exact c
  ·rw[if_neg i]at c ⊢;rw[wv h.keys.2.1 j]at c;exact c
end
theorem BQ(x:Nat)(a i j:Int)(k:ap)(xa:au)(l xc:Nat)(g cl:Bool)(b:Int)(w:ag)(R:Int->ag->Prop)(z:Hid (∀W,am w W->ao 51 #[aH x,ab a] W λe w'=>e=.returned (.bool g)/\w'=W))(G:Hid (∀W,am w W->ao 53 #[.agg #[ab i,ab j,af k,ae xa l xc]] W λe w'=>e=.returned (ab b)/\am W w'))(E:Hid (∀W,am w W->ao 54 #[.agg #[ab i,ab j,af k,ae xa l xc]] W λe w'=>e=.returned (.bool cl)/\am W w'))(F:Hid (g=true->b=0->cl=true->∀W,am w W->ao 52 #[aH x,ab 0,ab a,.agg #[ab i,ab j,af k,ae xa l xc]] W λe w'=>e=.returned (.tuple #[])/\Hid (R 0 w')))(r:Hid (∀W,am w W->(g=false->R 4 W)/\(g=true->b≠0->R b W)/\(g=true->b=0->cl=false->R 5 W))):ao 26 #[aH x,ab a,.agg #[ab i,ab j,af k,ae xa l xc]] w λe w'=>∃v,e=.returned (ab v)/\Hid (R v w'):=by
 go_enter func26,ntmps26;go_upto_region 1 with fail;generalize A:w.alloc _=y;have d:Hid (am w y/\y.heap[w.heap.size]?=some (.cells #[ab i,ab j,af k,ae xa l xc] 31)):=by
  rw[<-A];exact⟨aS _ _,aD _ _⟩
 clear A;go_wp2_with fail;refine(z _ d.1).mono ?_;rintro e K ⟨rfl,B⟩;obtain rfl:=B.symm;clear B z;cases g
 ·have h:=aq ((r y d.1).1 rfl);go_wp2_with fail
  go_ret
  exact⟨4,rfl,h⟩
 have c:=d.2;obtain⟨m,n,o,p⟩:=QQ c;clear c;go_wp2_with fail;refine(G _ d.1).mono ?_;rintro e I ⟨rfl,s⟩;have f:=aq (⟨d.1.trans (s.mono d.1.size),dp s d.2⟩:_/\_);clear m n o p s;by_cases u:b=0;rotate_left
 ·have h:=aq ((r I f.1).2.1 (by simp) u);have J:(b !=0)=true:=by simpa using u
  go_wp2_with fail
  go_ret
  exact⟨b,rfl,h⟩
 subst u;have c:=f.2;obtain⟨m,n,o,p⟩:=QQ c;clear c;go_wp2_with fail;refine(E _ f.1).mono ?_;rintro e C ⟨rfl,t⟩;have q:=aq (⟨f.1.trans (t.mono f.1.size),dp t f.2⟩:_/\_);clear m n o p t;cases cl
 ·have h:=aq ((r C q.1).2.2 (by simp) (by simp) (by simp));go_wp2_with fail
  go_ret
  exact⟨5,rfl,h⟩
 have c:=q.2;obtain⟨m,n,o,p⟩:=QQ c;have H:=aq (F (by simp) (by simp) (by simp) C q.1);clear c;go_wp2_with fail;refine H.mono ?_;rintro e L ⟨rfl,D⟩;go_wp2_with fail
 go_ret
 exact⟨0,rfl,D⟩
section
variable {p:lB} {s:Sy} {d:gz} {w:ag}
theorem bz.inject(j:bz p s d w){a:Int}(y:dI a){m:Nat}(x:Tm (m+1))(l:In w.heap.size w (m+1) x/\cv (λq=>¬1<=d.ow q) (m+1) x)(u:(aC (m+1) x).length<=2097152)(A:d.k<=47000)(t:d.es.length<=98000):ao 26 #[aH p.b,ab a,dB (m+1) x] w λe w'=>∃v,e=.returned (ab v)/\Hid (v=(s.inject p.room a (m+1) x).2/\∃g,bz p (s.inject p.room a (m+1) x).1 g w'/\gB 100 201 d g w w'):=by
 have o:∀f,am w f->gB 100 201 d d w f:=λf c=>(eu.later d c).un.mono (aM _) (aM _);refine BQ p.b a x.1.1 x.1.2.1 x.1.2.2 x.2.1.1 x.2.2.length x.2.1.2 (s.get a).isSome (aT (m+1) x) (bG (m+1) x) w (λv w'=>v=(s.inject p.room a (m+1) x).2/\∃g,bz p (s.inject p.room a (m+1) x).1 g w'/\gB 100 201 d g w w') (λf c=>(j.later c).isAlive a) (λf c=>ed (m+1) x w.heap.size f (l.1.below c) c.size u) (λf c=>jf (m+1) x w.heap.size f (l.1.below c) c.size) (λh i n f c=>?_) λf c=>⟨λe=>?_,λh i=>?_,λh i n=>?_⟩
 ·obtain⟨v,z⟩:=gm.1 h;obtain⟨F,E,D⟩:=v;refine((j.later c).deliver y z x ⟨(l.1.below c).mono c.size,l.2⟩ i A t).mono ?_;rintro e w' ⟨rfl,r⟩;obtain⟨g,B,C⟩:=r;have e:s.inject p.room a (m+1) x=(s.deliver p.room 0 a (cn (m+1) x),0):=by
   unfold Sy.inject;rw[if_neg (by rw[h];decide),if_neg (by rw[i];decide),if_neg (by rw[n];decide)]
  rw[e];exact⟨rfl,rfl,g,B,((eu.later d c).un.trans C).mono (by omega) (by omega)⟩
 ·have e:s.inject p.room a (m+1) x=(s,4):=if_pos e;rw[e];exact⟨rfl,d,j.later c,o f c⟩
 ·have e:s.inject p.room a (m+1) x=(s,bG (m+1) x):=by
    unfold Sy.inject;rw[if_neg (by rw[h];decide),if_pos i]
  rw[e];exact⟨rfl,d,j.later c,o f c⟩
 ·have e:s.inject p.room a (m+1) x=(s,5):=by
    unfold Sy.inject;rw[if_neg (by rw[h];decide),if_neg (by rw[i];decide),if_pos n]
  rw[e];exact⟨rfl,d,j.later c,o f c⟩
end
end Go.Proofs.YtmmahddlcldmiaaGreat

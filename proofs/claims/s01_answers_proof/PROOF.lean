import PyProof.Rows.All
import Wide.All
import OpenK.AllK
import Wide.FinOn
import PyProof.EqAt
import PyProof.EqKinds
import PyProof.TupleCall
import KE.BitLaws
import Open.SpecLaws
import KE.OsHead
import KE.OsGo
import PySem.Challenge.RW_outlineruns_s01_answers
set_option Elab.async false
set_option linter.all false
set_option maxRecDepth 100000
theorem PySem.W.Fast.tw606660112920093288 : True := trivial
theorem PySem.W.Fast.tw9012694235888545796 : True := trivial
theorem PySem.W.Fast.tw16101297046375560194 : True := trivial
theorem PySem.W.Fast.tw17056368099478300693 : True := trivial
theorem PySem.W.Fast.tw15839539762806028738 : True := trivial
theorem PySem.W.Fast.tw17336249037557231023 : True := trivial
theorem PySem.W.Fast.tw11171278740364934302 : True := trivial
theorem PySem.W.Fast.tw14100155738130325877 : True := trivial
theorem PySem.W.Fast.tw840245217392419052 : True := trivial
theorem PySem.W.Fast.tw1399447830675815632 : True := trivial
theorem PySem.W.Fast.tw7287865821725942824 : True := trivial
theorem PySem.W.Fast.tw8430287974386006715 : True := trivial
theorem PySem.W.Fast.tw3790514983956962485 : True := trivial
theorem PySem.W.Fast.tw1551386850332154365 : True := trivial
theorem PySem.W.Fast.tw18158643527889576261 : True := trivial
theorem PySem.W.Fast.tw14146683597058934452 : True := trivial
theorem PySem.W.Fast.tw15105937033002064117 : True := trivial
theorem PySem.W.Fast.tw8696666706569770454 : True := trivial
theorem PySem.W.Fast.tw16233371786725082536 : True := trivial
theorem PySem.W.Fast.tw12149167718059280212 : True := trivial
theorem PySem.W.Fast.tw16446825115976517870 : True := trivial
theorem PySem.W.Fast.tw12098666910978680954 : True := trivial
theorem PySem.W.Fast.tw294819190696804795 : True := trivial
theorem PySem.W.Fast.tw16356172549840204013 : True := trivial
theorem PySem.W.Fast.tw2512959864873865045 : True := trivial
theorem PySem.W.Fast.tw4930909926483376956 : True := trivial
theorem PySem.W.Fast.tw1920039727981392234 : True := trivial
theorem PySem.W.Fast.tw12300456734098827569 : True := trivial
theorem PySem.W.Fast.tw13147678244883926501 : True := trivial
theorem PySem.W.Fast.tw10561881759804969645 : True := trivial
theorem PySem.W.Fast.tw9938811366123290113 : True := trivial
theorem PySem.W.Fast.tw15373521305200048731 : True := trivial
theorem PySem.W.Fast.tw66907275013447198 : True := trivial
theorem PySem.W.Fast.tw7041238728663589352 : True := trivial
theorem PySem.W.Fast.tw15665752920049762286 : True := trivial
theorem PySem.W.Fast.tw2396753825160623191 : True := trivial
theorem PySem.W.Fast.tw16146761979803618912 : True := trivial
theorem PySem.W.Fast.tw9260259662962874131 : True := trivial
theorem PySem.W.Fast.tw17164297401044305817 : True := trivial
theorem PySem.W.Fast.tw13364219862916939215 : True := trivial
theorem PySem.W.Fast.tw1420751539109678551 : True := trivial
theorem PySem.W.Fast.tw11536603202879747683 : True := trivial
theorem PySem.W.Fast.tw7216769734876646620 : True := trivial
theorem PySem.W.Fast.tw11645002982237297500 : True := trivial
theorem PySem.W.Fast.tw6682183731747875224 : True := trivial
theorem PySem.W.Fast.tw16841835237543468660 : True := trivial
theorem PySem.W.Fast.tw17098907695967661099 : True := trivial
theorem PySem.W.Fast.tw16674505374750208497 : True := trivial
theorem PySem.W.Fast.tw18368131800213645297 : True := trivial
theorem PySem.W.Fast.tw2727110318398742301 : True := trivial
theorem PySem.W.Fast.tw1850773208074891757 : True := trivial
theorem PySem.W.Fast.tw61531375346943632 : True := trivial
theorem PySem.W.Fast.tw6494985347923140231 : True := trivial
theorem PySem.W.Fast.tw16178907769522126212 : True := trivial
theorem PySem.W.Fast.tw18333040127423027699 : True := trivial
theorem PySem.W.Fast.tw3456187415420329478 : True := trivial
theorem PySem.W.Fast.tw16543745694637564984 : True := trivial
theorem PySem.W.Fast.tw1690504537583694990 : True := trivial
theorem PySem.W.Fast.tw16805696008889267335 : True := trivial
theorem PySem.W.Fast.tw7347904918748940794 : True := trivial
theorem PySem.W.Fast.tw9081694461984926461 : True := trivial
theorem PySem.W.Fast.tw3440542496942103055 : True := trivial
theorem PySem.W.Fast.tw6434473310974582175 : True := trivial
theorem PySem.W.Fast.tw861862864722036459 : True := trivial
theorem PySem.W.Fast.tw3658990727812338546 : True := trivial
theorem PySem.W.Fast.tw16440974398491436267 : True := trivial
theorem PySem.W.Fast.tw11982213489223079788 : True := trivial
theorem PySem.W.Fast.tw9025585039535126998 : True := trivial
theorem PySem.W.Fast.tw14080623725423580467 : True := trivial
theorem PySem.W.Fast.tw17521131531013635042 : True := trivial
theorem PySem.W.Fast.tw753836124262793757 : True := trivial
theorem PySem.W.Fast.tw7169481475646715853 : True := trivial
theorem PySem.W.Fast.tw7486981161899654593 : True := trivial
theorem PySem.W.Fast.tw16832284657947031861 : True := trivial
theorem PySem.W.Fast.tw1659995318067818676 : True := trivial
theorem PySem.W.Fast.tw3726519902700446496 : True := trivial
theorem PySem.W.Fast.tw17484498250567843497 : True := trivial
theorem PySem.W.Fast.tw15997467835383209300 : True := trivial
theorem PySem.W.Fast.tw15507841656764963033 : True := trivial
theorem PySem.W.Fast.tw7028045764607088951 : True := trivial
theorem PySem.W.Fast.tw3377607645004495299 : True := trivial
theorem PySem.W.Fast.tw2693252535663498802 : True := trivial
theorem PySem.W.Fast.tw10164082814781025507 : True := trivial
theorem PySem.W.Fast.tw10300541254923518683 : True := trivial
theorem PySem.W.Fast.tw16116954520990350432 : True := trivial
theorem PySem.W.Fast.tw4915117815038303185 : True := trivial
theorem PySem.W.Fast.tw13017399536292881044 : True := trivial
theorem PySem.W.Fast.tw5302868859945190809 : True := trivial
theorem PySem.W.Fast.tw931612512813866544 : True := trivial
theorem PySem.W.Fast.tw146453607897116376 : True := trivial
theorem PySem.W.Fast.tw16275318992331409098 : True := trivial
theorem PySem.W.Fast.tw15601746982191294020 : True := trivial
theorem PySem.W.Fast.tw11103048719176404715 : True := trivial
theorem PySem.W.Fast.tw10372469594574822528 : True := trivial
theorem PySem.W.Fast.tw5457462590238927094 : True := trivial
theorem PySem.W.Fast.tw14083764956922534244 : True := trivial
theorem PySem.W.Fast.tw6341295623911529349 : True := trivial
theorem PySem.W.Fast.tw17195135620957912870 : True := trivial
theorem PySem.W.Fast.tw16508406915137304509 : True := trivial
theorem PySem.W.Fast.tw18093511962668017016 : True := trivial
theorem PySem.W.Fast.tw8262468066677762960 : True := trivial
theorem PySem.W.Fast.tw1113624575706745824 : True := trivial
theorem PySem.W.Fast.tw3032381959484050359 : True := trivial
theorem PySem.W.Fast.tw17503750614209044259 : True := trivial
theorem PySem.W.Fast.tw4876381470974766336 : True := trivial
theorem PySem.W.Fast.tw4423372325692337366 : True := trivial
theorem PySem.W.Fast.tw15249013369539330786 : True := trivial
theorem PySem.W.Fast.tw4773709399197125202 : True := trivial
theorem PySem.W.Fast.tw9404180104602454091 : True := trivial
theorem PySem.W.Fast.tw12704060948716578307 : True := trivial
theorem PySem.W.Fast.tw1935514662338767533 : True := trivial
theorem PySem.W.Fast.tw2172769807395106101 : True := trivial
theorem PySem.W.Fast.tw3472425218153086295 : True := trivial
theorem PySem.W.Fast.tw5402999146968360482 : True := trivial
theorem PySem.W.Fast.tw9016828166057829660 : True := trivial
theorem PySem.W.Fast.tw3103355001749949749 : True := trivial
theorem PySem.W.Fast.tw7918814543722957188 : True := trivial
theorem PySem.W.Fast.tw3270312958164402868 : True := trivial
theorem PySem.W.Fast.tw15898581025694796609 : True := trivial
theorem PySem.W.Fast.tw11819841943046191868 : True := trivial
theorem PySem.W.Fast.tw8283500372325835214 : True := trivial
theorem PySem.W.Fast.tw9151147511165982061 : True := trivial
theorem PySem.W.Fast.tw6673220255075525831 : True := trivial
theorem PySem.W.Fast.tw15469029250375004914 : True := trivial
theorem PySem.W.Fast.tw11378590953914464295 : True := trivial
theorem PySem.W.Fast.tw1024596990738320018 : True := trivial
theorem PySem.W.Fast.tw1636100021324657296 : True := trivial
theorem PySem.W.Fast.tw5381919356123913321 : True := trivial
theorem PySem.W.Fast.tw2504622824461312231 : True := trivial
theorem PySem.W.Fast.tw4618811631884539437 : True := trivial
theorem PySem.W.Fast.tw13680153368255273516 : True := trivial
theorem PySem.W.Fast.tw9280131239449328710 : True := trivial
theorem PySem.W.Fast.tw18115728365811714052 : True := trivial
theorem PySem.W.Fast.tw14053667796694437772 : True := trivial
theorem PySem.W.Fast.tw2741737778964965486 : True := trivial
theorem PySem.W.Fast.tw16852233415957603675 : True := trivial
theorem PySem.W.Fast.tw16402820755663602443 : True := trivial
theorem PySem.W.Fast.tw4523992740656196321 : True := trivial
theorem PySem.W.Fast.tw7073552695045847642 : True := trivial
theorem PySem.W.Fast.tw6909607211127595839 : True := trivial
theorem PySem.W.Fast.tw13920410526896737076 : True := trivial
theorem PySem.W.Fast.tw2350656079973452118 : True := trivial
theorem PySem.W.Fast.tw14077330793454880138 : True := trivial
theorem PySem.W.Fast.tw10797144495461881859 : True := trivial
theorem PySem.W.Fast.tw1468988213874066463 : True := trivial
theorem PySem.W.Fast.tw5649156757400577150 : True := trivial
theorem PySem.W.Fast.tw10687908480493674629 : True := trivial
theorem PySem.W.Fast.tw12503772033191251517 : True := trivial
theorem PySem.W.Fast.tw17034503628328053246 : True := trivial
theorem PySem.W.Fast.tw8947737429500761907 : True := trivial
theorem PySem.W.Fast.tw10418513041548582855 : True := trivial
theorem PySem.W.Fast.tw817769380919869929 : True := trivial
theorem PySem.W.Fast.tw6119816473325017044 : True := trivial
theorem PySem.W.Fast.tw2578923401593458352 : True := trivial
theorem PySem.W.Fast.tw12994007023916440053 : True := trivial
theorem PySem.W.Fast.tw8607322663445027924 : True := trivial
theorem PySem.W.Fast.tw792521485367805611 : True := trivial
theorem PySem.W.Fast.tw3843093986141779538 : True := trivial
theorem PySem.W.Fast.tw2868160334911601874 : True := trivial
theorem PySem.W.Fast.tw7283332965388608443 : True := trivial
theorem PySem.W.Fast.tw6715759393327033559 : True := trivial
theorem PySem.W.Fast.tw9392165200905940607 : True := trivial
theorem PySem.W.Fast.tw7667067961880909070 : True := trivial
theorem PySem.W.Fast.tw12532644031589584292 : True := trivial
theorem PySem.W.Fast.tw5098882190058748775 : True := trivial
theorem PySem.W.Fast.tw9935967956515661387 : True := trivial
theorem PySem.W.Fast.tw3358154633754329568 : True := trivial
theorem PySem.W.Fast.tw5144215773608709410 : True := trivial
theorem PySem.W.Fast.tw12579276115092915764 : True := trivial
theorem PySem.W.Fast.tw5924377369927194589 : True := trivial
theorem PySem.W.Fast.tw14715064681998765200 : True := trivial
theorem PySem.W.Fast.tw2182616191387100617 : True := trivial
theorem PySem.W.Fast.tw13423793913609338395 : True := trivial
theorem PySem.W.Fast.tw14629508687595763186 : True := trivial
theorem PySem.W.Fast.tw700322156966272431 : True := trivial
theorem PySem.W.Fast.tw17276344141485606975 : True := trivial
theorem PySem.W.Fast.tw8798474663435896741 : True := trivial
theorem PySem.W.Fast.tw5962679993360242317 : True := trivial
theorem PySem.W.Fast.tw11628690668252883554 : True := trivial
theorem PySem.W.Fast.tw5996272184259826386 : True := trivial
theorem PySem.W.Fast.tw6193043087918679356 : True := trivial
theorem PySem.W.Fast.tw17692046213904633515 : True := trivial
theorem PySem.W.Fast.tw16851398096744741604 : True := trivial
theorem PySem.W.Fast.tw16925746433753241488 : True := trivial
theorem PySem.W.Fast.tw802595123562320707 : True := trivial
theorem PySem.W.Fast.tw15228991958978385535 : True := trivial
theorem PySem.W.Fast.tw8595086255104317899 : True := trivial
theorem PySem.W.Fast.tw12696088354316526805 : True := trivial
theorem PySem.W.Fast.tw7535700531434843208 : True := trivial
theorem PySem.W.Fast.tw6598683382665066883 : True := trivial
theorem PySem.W.Fast.tw15163342320957025920 : True := trivial
theorem PySem.W.Fast.tw11517144308743735084 : True := trivial
theorem PySem.W.Fast.tw468757649840640704 : True := trivial
theorem PySem.W.Fast.tw5385722460994432389 : True := trivial
theorem PySem.W.Fast.tw3367281184282293746 : True := trivial
theorem PySem.W.Fast.tw15113248889897034703 : True := trivial
theorem PySem.W.Fast.tw3579597902914416796 : True := trivial
theorem PySem.W.Fast.tw2835907091515713383 : True := trivial
theorem PySem.W.Fast.tw13550021436407165539 : True := trivial
theorem PySem.W.Fast.tw1005298032645710961 : True := trivial
theorem PySem.W.Fast.tw6235850217388298594 : True := trivial
theorem PySem.W.Fast.tw12233816323682393703 : True := trivial
theorem PySem.W.Fast.tw18281893353800961609 : True := trivial
theorem PySem.W.Fast.tw17833077419015918306 : True := trivial
theorem PySem.W.Fast.tw17380701205512896783 : True := trivial
theorem PySem.W.Fast.tw15343439752036202561 : True := trivial
theorem PySem.W.Fast.tw7376063272948500599 : True := trivial
theorem PySem.W.Fast.tw17741887330336659781 : True := trivial
theorem PySem.W.Fast.tw8431455818290685378 : True := trivial
theorem PySem.W.Fast.tw2267221558129089644 : True := trivial
theorem PySem.W.Fast.tw7773765311777196511 : True := trivial
theorem PySem.W.Fast.tw9901599354464260578 : True := trivial
theorem PySem.W.Fast.tw16856563550755383054 : True := trivial
theorem PySem.W.Fast.tw3382904979363462988 : True := trivial
theorem PySem.W.Fast.tw12252363586094033542 : True := trivial
theorem PySem.W.Fast.tw1868229905951100131 : True := trivial
theorem PySem.W.Fast.tw18132469998149784904 : True := trivial
theorem PySem.W.Fast.tw7039533164112291349 : True := trivial
theorem PySem.W.Fast.tw5252254460754431896 : True := trivial
theorem PySem.W.Fast.tw6082933525207570059 : True := trivial
theorem PySem.W.Fast.tw17557599096120104986 : True := trivial
theorem PySem.W.Fast.tw6425061504030273901 : True := trivial
theorem PySem.W.Fast.tw14870391221992723422 : True := trivial
theorem PySem.W.Fast.tw14515013112309188051 : True := trivial
theorem PySem.W.Fast.tw1483980539424748317 : True := trivial
theorem PySem.W.Fast.tw14666476253230379645 : True := trivial
theorem PySem.W.Fast.tw3976034389106565319 : True := trivial
theorem PySem.W.Fast.tw14418778078699088396 : True := trivial
theorem PySem.W.Fast.tw10430269833862722956 : True := trivial
theorem PySem.W.Fast.tw10151839398864667547 : True := trivial
theorem PySem.W.Fast.tw5362131840571594384 : True := trivial
theorem PySem.W.Fast.tw8906116374077565596 : True := trivial
theorem PySem.W.Fast.tw14602469152141412867 : True := trivial
theorem PySem.W.Fast.tw15292590880928193777 : True := trivial
theorem PySem.W.Fast.tw12076266744141197571 : True := trivial
theorem PySem.W.Fast.tw1231477483132946179 : True := trivial
theorem PySem.W.Fast.tw406210315191095564 : True := trivial
theorem PySem.W.Fast.tw2778600569192130886 : True := trivial
theorem PySem.W.Fast.tw14533526055684864555 : True := trivial
theorem PySem.W.Fast.tw4571675451139172178 : True := trivial
theorem PySem.W.Fast.tw12573001942285366028 : True := trivial
theorem PySem.W.Fast.tw5976068272510197044 : True := trivial
theorem PySem.W.Fast.tw13047417238402396087 : True := trivial
theorem PySem.W.Fast.tw2095844662269443481 : True := trivial
theorem PySem.W.Fast.tw17708837706186716182 : True := trivial
theorem PySem.W.Fast.tw5159531239517899306 : True := trivial
theorem PySem.W.Fast.tw13883202287620685627 : True := trivial
theorem PySem.W.Fast.tw12347885035665200980 : True := trivial
theorem PySem.W.Fast.tw16878537247765596529 : True := trivial
theorem PySem.W.Fast.tw7362083066818100309 : True := trivial
theorem PySem.W.Fast.tw15182082156660963822 : True := trivial
theorem PySem.W.Fast.tw7914307122627103817 : True := trivial
theorem PySem.W.Fast.tw5818293416339255427 : True := trivial
theorem PySem.W.Fast.tw16274804122159312517 : True := trivial
theorem PySem.W.Fast.tw12130698218559881246 : True := trivial
theorem PySem.W.Fast.tw15595071290987565393 : True := trivial
theorem PySem.W.Fast.tw11950239432440266595 : True := trivial
theorem PySem.W.Fast.tw8535026579490831279 : True := trivial
theorem PySem.W.Fast.tw2945309506741686908 : True := trivial
theorem PySem.W.Fast.tw5458639747794485194 : True := trivial
theorem PySem.W.Fast.tw9583719575696665356 : True := trivial
theorem PySem.W.Fast.tw14767107310365311594 : True := trivial
theorem PySem.W.Fast.tw8909573416597621366 : True := trivial
theorem PySem.W.Fast.tw3699065851554534992 : True := trivial
theorem PySem.W.Fast.tw9660283865556094957 : True := trivial
theorem PySem.W.Fast.tw16802926092783744060 : True := trivial
theorem PySem.W.Fast.tw6593628572284054737 : True := trivial
theorem PySem.W.Fast.tw16852132116636279171 : True := trivial
theorem PySem.W.Fast.tw8433684677208212420 : True := trivial
theorem PySem.W.Fast.tw5917355587177764690 : True := trivial
theorem PySem.W.Fast.tw17941244740607987418 : True := trivial
theorem PySem.W.Fast.tw16834444376259050563 : True := trivial
theorem PySem.W.Fast.tw4417848767617770696 : True := trivial
theorem PySem.W.Fast.tw16156131645043786749 : True := trivial
theorem PySem.W.Fast.tw4267403628992107952 : True := trivial
theorem PySem.W.Fast.tw5992885049092765266 : True := trivial
theorem PySem.W.Fast.tw4430275386600757523 : True := trivial
theorem PySem.W.Fast.tw7264152463231088357 : True := trivial
theorem PySem.W.Fast.tw711269673641169411 : True := trivial
theorem PySem.W.Fast.tw6259911599336619470 : True := trivial
theorem PySem.W.Fast.tw3687630321726140513 : True := trivial
theorem PySem.W.Fast.tw533256589846397488 : True := trivial
theorem PySem.W.Fast.tw15579281340742300384 : True := trivial
theorem PySem.W.Fast.tw8873571557877543024 : True := trivial
theorem PySem.W.Fast.tw12550628908280097328 : True := trivial
theorem PySem.W.Fast.tw1929427105392716928 : True := trivial
theorem PySem.W.Fast.tw13116129345001367862 : True := trivial
theorem PySem.W.Fast.tw6270219080777761853 : True := trivial
theorem PySem.W.Fast.tw11415103729588239568 : True := trivial
theorem PySem.W.Fast.tw14426616114040159714 : True := trivial
theorem PySem.W.Fast.tw16039348077896733065 : True := trivial
theorem PySem.W.Fast.tw2908379837195544562 : True := trivial
theorem PySem.W.Fast.tw10347519215874121651 : True := trivial
theorem PySem.W.Fast.tw11988346831871213502 : True := trivial
theorem PySem.W.Fast.tw9325295706086893943 : True := trivial
theorem PySem.W.Fast.tw4228167151500021880 : True := trivial
theorem PySem.W.Fast.tw2983793542700772422 : True := trivial
theorem PySem.W.Fast.tw18304844391489914565 : True := trivial
theorem PySem.W.Fast.tw15468544874968117644 : True := trivial
theorem PySem.W.Fast.tw12566638231270131244 : True := trivial
theorem PySem.W.Fast.tw4463634880320545135 : True := trivial
theorem PySem.W.Fast.tw11395484343156306130 : True := trivial
theorem PySem.W.Fast.tw13562767950732624278 : True := trivial
theorem PySem.W.Fast.tw8855352610839725173 : True := trivial
theorem PySem.W.Fast.tw17724832418725754704 : True := trivial
theorem PySem.W.Fast.tw1399779335767619876 : True := trivial
theorem PySem.W.Fast.tw1186039603886899517 : True := trivial
theorem PySem.W.Fast.tw3392727451197835450 : True := trivial
theorem PySem.W.Fast.tw11978677126780567513 : True := trivial
theorem PySem.W.Fast.tw585415451841780582 : True := trivial
theorem PySem.W.Fast.tw12201236300801595864 : True := trivial
theorem PySem.W.Fast.tw15342545342421726915 : True := trivial
theorem PySem.W.Fast.tw6295525028344365672 : True := trivial
theorem PySem.W.Fast.tw12830376712472909680 : True := trivial
theorem PySem.W.Fast.tw12797831738519935923 : True := trivial
theorem PySem.W.Fast.tw8541966797517692599 : True := trivial
theorem PySem.W.Fast.tw6215260600680239072 : True := trivial
theorem PySem.W.Fast.tw9323290613115025170 : True := trivial
theorem PySem.W.Fast.tw5088148416839298104 : True := trivial
theorem PySem.W.Fast.tw8866561852543934745 : True := trivial
theorem PySem.W.Fast.tw4611255552766532434 : True := trivial
theorem PySem.W.Fast.tw1209673818883830400 : True := trivial
theorem PySem.W.Fast.tw17400525055118510076 : True := trivial
theorem PySem.W.Fast.tw10761163160029554653 : True := trivial
theorem PySem.W.Fast.tw16081607525887514577 : True := trivial
theorem PySem.W.Fast.tw2664366835413597806 : True := trivial
theorem PySem.W.Fast.tw13582376441483534953 : True := trivial
theorem PySem.W.Fast.tw4400609499491170832 : True := trivial
theorem PySem.W.Fast.tw8320900793883077978 : True := trivial
theorem PySem.W.Fast.tw5372288358521166114 : True := trivial
theorem PySem.W.Fast.tw17101761883110715837 : True := trivial
theorem PySem.W.Fast.tw3827644828830961033 : True := trivial
theorem PySem.W.Fast.tw2452571236029393241 : True := trivial
theorem PySem.W.Fast.tw2956528535032770587 : True := trivial
theorem PySem.W.Fast.tw2637976648647439590 : True := trivial
theorem PySem.W.Fast.tw13549638961871185560 : True := trivial
theorem PySem.W.Fast.tw13213232406449737715 : True := trivial
theorem PySem.W.Fast.tw3329530532252573234 : True := trivial
theorem PySem.W.Fast.tw10101095896650671188 : True := trivial
theorem PySem.W.Fast.tw14287716505377053778 : True := trivial
theorem PySem.W.Fast.tw2362149731398223105 : True := trivial
theorem PySem.W.Fast.tw4020300948812965766 : True := trivial
theorem PySem.W.Fast.tw8253260959570593857 : True := trivial
theorem PySem.W.Fast.tw15970031659213438209 : True := trivial
theorem PySem.W.Fast.tw13360434433434578140 : True := trivial
theorem PySem.W.Fast.tw15850978531394252150 : True := trivial
theorem PySem.W.Fast.tw12837111962125689582 : True := trivial
theorem PySem.W.Fast.tw12419863255315043029 : True := trivial
theorem PySem.W.Fast.tw1154655851220823236 : True := trivial
theorem PySem.W.Fast.tw16353733390469728629 : True := trivial
theorem PySem.W.Fast.tw8079242145358876985 : True := trivial
theorem PySem.W.Fast.tw13520054075249254946 : True := trivial
theorem PySem.W.Fast.tw14337863536999481820 : True := trivial
theorem PySem.W.Fast.tw17133302492963024752 : True := trivial
theorem PySem.W.Fast.tw5632095885705777748 : True := trivial
theorem PySem.W.Fast.tw14949571764149117735 : True := trivial
theorem PySem.W.Fast.tw14047943086957609717 : True := trivial
theorem PySem.W.Fast.tw5524879113385440243 : True := trivial
theorem PySem.W.Fast.tw8831241434286473039 : True := trivial
theorem PySem.W.Fast.tw15986298084928308534 : True := trivial
theorem PySem.W.Fast.tw8698476443173478370 : True := trivial
theorem PySem.W.Fast.tw14633205048536868948 : True := trivial
theorem PySem.W.Fast.tw12660234085668722825 : True := trivial
theorem PySem.W.Fast.tw512472009848433858 : True := trivial
theorem PySem.W.Fast.tw14347817415163372721 : True := trivial
theorem PySem.W.Fast.tw16158979718888636601 : True := trivial
theorem PySem.W.Fast.tw212451810414041457 : True := trivial
theorem PySem.W.Fast.tw9155015751481977660 : True := trivial
theorem PySem.W.Fast.tw8802502289246456936 : True := trivial
theorem PySem.W.Fast.tw13010945604746007898 : True := trivial
theorem PySem.W.Fast.tw4247248132998529242 : True := trivial
theorem PySem.W.Fast.tw1134767414478717233 : True := trivial
theorem PySem.W.Fast.tw7421052696117388136 : True := trivial
theorem PySem.W.Fast.tw6653405308192621895 : True := trivial
theorem PySem.W.Fast.tw8425544829903713524 : True := trivial
theorem PySem.W.Fast.tw3864616784214178514 : True := trivial
theorem PySem.W.Fast.tw9007978020813378262 : True := trivial
theorem PySem.W.Fast.tw2767176822864861123 : True := trivial
theorem PySem.W.Fast.tw9329294686817864103 : True := trivial
theorem PySem.W.Fast.tw2284583140947823248 : True := trivial
theorem PySem.W.Fast.tw4700135615598025872 : True := trivial
theorem PySem.W.Fast.tw7800348312812449932 : True := trivial
theorem PySem.W.Fast.tw15255481443175852031 : True := trivial
theorem PySem.W.Fast.tw11754932150152638746 : True := trivial
theorem PySem.W.Fast.tw6777340717855846205 : True := trivial
theorem PySem.W.Fast.tw5005172103884301821 : True := trivial
theorem PySem.W.Fast.tw9026770875690608314 : True := trivial
theorem PySem.W.Fast.tw11688258867140506509 : True := trivial
theorem PySem.W.Fast.tw15080343228909376395 : True := trivial
theorem PySem.W.Fast.tw9134597329469247917 : True := trivial
theorem PySem.W.Fast.tw11916051878428057580 : True := trivial
theorem PySem.W.Fast.tw6368451219058309526 : True := trivial
theorem PySem.W.Fast.tw1763003147071821896 : True := trivial
theorem PySem.W.Fast.tw745105320670251549 : True := trivial
theorem PySem.W.Fast.tw8019560353898021730 : True := trivial
theorem PySem.W.Fast.tw6585190339281219178 : True := trivial
theorem PySem.W.Fast.tw13925972763596332612 : True := trivial
theorem PySem.W.Fast.tw416785898506675304 : True := trivial
theorem PySem.W.Fast.tw17884863849255689737 : True := trivial
theorem PySem.W.Fast.tw10408630188077808020 : True := trivial
theorem PySem.W.Fast.tw629915769230361907 : True := trivial
theorem PySem.W.Fast.tw3466436632693887614 : True := trivial
theorem PySem.W.Fast.tw4877476531993049262 : True := trivial
theorem PySem.W.Fast.tw14596842987292485725 : True := trivial
theorem PySem.W.Fast.tw7885140377986827545 : True := trivial
theorem PySem.W.Fast.tw10323680904972760328 : True := trivial
theorem PySem.W.Fast.tw7770311505355516449 : True := trivial
theorem PySem.W.Fast.tw7465222770319250618 : True := trivial
theorem PySem.W.Fast.tw2004974570366758872 : True := trivial
theorem PySem.W.Fast.tw8626943854824397406 : True := trivial
theorem PySem.W.Fast.tw7707690712380063313 : True := trivial
theorem PySem.W.Fast.tw285283955173561119 : True := trivial
theorem PySem.W.Fast.tw15922272758636440296 : True := trivial
theorem PySem.W.Fast.tw3182206077976883796 : True := trivial
theorem PySem.W.Fast.tw6752249798566753953 : True := trivial
theorem PySem.W.Fast.tw12638678264860639477 : True := trivial
theorem PySem.W.Fast.tw16767809617432459470 : True := trivial
theorem PySem.W.Fast.tw834836578180693966 : True := trivial
theorem PySem.W.Fast.tw14110565421390565820 : True := trivial
theorem PySem.W.Fast.tw17052277976866465373 : True := trivial
theorem PySem.W.Fast.tw6642786328438630935 : True := trivial
theorem PySem.W.Fast.tw11686719943960961498 : True := trivial
theorem PySem.W.Fast.tw15725900993303410498 : True := trivial
theorem PySem.W.Fast.tw6618143510701322836 : True := trivial
theorem PySem.W.Fast.tw2760669275292408041 : True := trivial
theorem PySem.W.Fast.tw17052278002725197815 : True := trivial
theorem PySem.W.Fast.tw890717353968483723 : True := trivial
theorem PySem.W.Fast.tw7369117309560229517 : True := trivial
theorem PySem.W.Fast.tw17624114044477177747 : True := trivial
theorem PySem.W.Fast.tw4299496073912668268 : True := trivial
theorem PySem.W.Fast.tw9646727917014469096 : True := trivial
theorem PySem.W.Fast.tw12410684062183930313 : True := trivial
theorem PySem.W.Fast.tw2317316879729511775 : True := trivial
theorem PySem.W.Fast.tw9604362538915301394 : True := trivial
theorem PySem.W.Fast.tw3280221648125084648 : True := trivial
theorem PySem.W.Fast.tw4409979267945669912 : True := trivial
theorem PySem.W.Fast.tw15885849114131297498 : True := trivial
theorem PySem.W.Fast.tw5803587097290040982 : True := trivial
theorem PySem.W.Fast.tw7830318319412642957 : True := trivial
theorem PySem.W.Fast.tw15580195140534449134 : True := trivial
theorem PySem.W.Fast.tw17567561765592037913 : True := trivial
theorem PySem.W.Fast.tw664416555514397517 : True := trivial
theorem PySem.W.Fast.tw11503335943258379806 : True := trivial
theorem PySem.W.Fast.tw15877459187281632704 : True := trivial
theorem PySem.W.Fast.tw17586526456906681904 : True := trivial
theorem PySem.W.Fast.tw8511127723541608195 : True := trivial
theorem PySem.W.Fast.tw1481909602261382383 : True := trivial
theorem PySem.W.Fast.tw14960461778048155172 : True := trivial
theorem PySem.W.Fast.tw2458700421032784633 : True := trivial
theorem PySem.W.Fast.tw3235402130362612232 : True := trivial
theorem PySem.W.Fast.tw11816040631430942574 : True := trivial
theorem PySem.W.Fast.tw17471093571644686686 : True := trivial
theorem PySem.W.Fast.tw17705898262305719437 : True := trivial
theorem PySem.W.Fast.tw9859438578436448968 : True := trivial
theorem PySem.W.Fast.tw7007629910243135617 : True := trivial
theorem PySem.W.Fast.tw10026997215723991049 : True := trivial
theorem PySem.W.Fast.tw12882090516103490130 : True := trivial
theorem PySem.W.Fast.tw3466168517264252668 : True := trivial
theorem PySem.W.Fast.tw16596144664819176089 : True := trivial
theorem PySem.W.Fast.tw13813198549561121907 : True := trivial
theorem PySem.W.Fast.tw10534827728400592499 : True := trivial
theorem PySem.W.Fast.tw10325116241011129567 : True := trivial
theorem PySem.W.Fast.tw5968267359873257727 : True := trivial
theorem PySem.W.Fast.tw2861904766592833420 : True := trivial
theorem PySem.W.Fast.tw16135403368762621007 : True := trivial
theorem PySem.W.Fast.tw9902398500266065047 : True := trivial
theorem PySem.W.Fast.tw12014509520509795543 : True := trivial
theorem PySem.W.Fast.tw564935181415750130 : True := trivial
theorem PySem.W.Fast.tw11490171434266854952 : True := trivial
theorem PySem.W.Fast.tw3629166623943878414 : True := trivial
theorem PySem.W.Fast.tw2686288206741950776 : True := trivial
theorem PySem.W.Fast.tw9560171343334395849 : True := trivial
theorem PySem.W.Fast.tw11491844336142402959 : True := trivial
theorem PySem.W.Fast.tw18020547175554655010 : True := trivial
theorem PySem.W.Fast.tw15308444864015299484 : True := trivial
theorem PySem.W.Fast.tw2870696462671439927 : True := trivial
theorem PySem.W.Fast.tw7731967224822366741 : True := trivial
theorem PySem.W.Fast.tw5288371549586856122 : True := trivial
theorem PySem.W.Fast.tw9232200235181378629 : True := trivial
theorem PySem.W.Fast.tw5637603278308916154 : True := trivial
theorem PySem.W.Fast.tw5528764989105625418 : True := trivial
theorem PySem.W.Fast.tw2187778360495635977 : True := trivial
theorem PySem.W.Fast.tw11702493794284134838 : True := trivial
theorem PySem.W.Fast.tw2949473584316661291 : True := trivial
theorem PySem.W.Fast.tw15004932907012061397 : True := trivial
theorem PySem.W.Fast.tw17689463146860184832 : True := trivial
theorem PySem.W.Fast.tw15390841908269149288 : True := trivial
theorem PySem.W.Fast.tw16435077209098208109 : True := trivial
theorem PySem.W.Fast.tw13943557038900316915 : True := trivial
theorem PySem.W.Fast.tw6122363189499218853 : True := trivial
theorem PySem.W.Fast.tw12420833297016425934 : True := trivial
theorem PySem.W.Fast.tw8996469879209981721 : True := trivial
theorem PySem.W.Fast.tw12201750760675302039 : True := trivial
theorem PySem.W.Fast.tw14296369117537445133 : True := trivial
theorem PySem.W.Fast.tw3268792019621484480 : True := trivial
theorem PySem.W.Fast.tw9912361155886095252 : True := trivial
theorem PySem.W.Fast.tw11760755024942052576 : True := trivial
theorem PySem.W.Fast.tw5161271726913205464 : True := trivial
theorem PySem.W.Fast.tw8857153500696967546 : True := trivial
theorem PySem.W.Fast.tw10068923800425707139 : True := trivial
theorem PySem.W.Fast.tw10613455442054624629 : True := trivial
theorem PySem.W.Fast.tw8463743137570563100 : True := trivial
theorem PySem.W.Fast.tw8696683779630522805 : True := trivial
theorem PySem.W.Fast.tw15168135791857813808 : True := trivial
theorem PySem.W.Fast.tw393925602091554253 : True := trivial
theorem PySem.W.Fast.tw9726897998603002088 : True := trivial
theorem PySem.W.Fast.tw16435942876007546268 : True := trivial
theorem PySem.W.Fast.tw16087763002890182637 : True := trivial
theorem PySem.W.Fast.tw15368634152030635070 : True := trivial
theorem PySem.W.Fast.tw873065017473805453 : True := trivial
theorem PySem.W.Fast.tw7245979716483040514 : True := trivial
theorem PySem.W.Fast.tw14368326122520015629 : True := trivial
theorem PySem.W.Fast.tw15866171199551068058 : True := trivial
theorem PySem.W.Fast.tw6936109520016334703 : True := trivial
theorem PySem.W.Fast.tw8110816790702547449 : True := trivial
theorem PySem.W.Fast.tw2575094364409736769 : True := trivial
theorem PySem.W.Fast.tw8024218289389528364 : True := trivial
theorem PySem.W.Fast.tw17198391070314868241 : True := trivial
theorem PySem.W.Fast.tw12436669243098648184 : True := trivial
theorem PySem.W.Fast.tw7577179530831350526 : True := trivial
theorem PySem.W.Fast.tw11478575204215987441 : True := trivial
theorem PySem.W.Fast.tw13692113263982447347 : True := trivial
theorem PySem.W.Fast.tw2742315373667274694 : True := trivial
theorem PySem.W.Fast.tw9816481122289087891 : True := trivial
theorem PySem.W.Fast.tw7722590245735259585 : True := trivial
theorem PySem.W.Fast.tw9978423589711482550 : True := trivial
theorem PySem.W.Fast.tw13123678758334463861 : True := trivial
theorem PySem.W.Fast.tw10201503341485920123 : True := trivial
theorem PySem.W.Fast.tw18011885365664747853 : True := trivial
theorem PySem.W.Fast.tw12473575384953744761 : True := trivial
theorem PySem.W.Fast.tw14869304677332698901 : True := trivial
theorem PySem.W.Fast.tw10187885221316223986 : True := trivial
theorem PySem.W.Fast.tw1472338579976715115 : True := trivial
theorem PySem.W.Fast.tw17571090703265502976 : True := trivial
theorem PySem.W.Fast.tw8353184717344823845 : True := trivial
theorem PySem.W.Fast.tw15899761508288290633 : True := trivial
theorem PySem.W.Fast.tw15932243374798359403 : True := trivial
theorem PySem.W.Fast.tw15913937055539706176 : True := trivial
theorem PySem.W.Fast.tw18377070800752213227 : True := trivial
theorem PySem.W.Fast.tw12473786007980600716 : True := trivial
theorem PySem.W.Fast.tw11082779956845255822 : True := trivial
theorem PySem.W.Fast.tw1890740595682399976 : True := trivial
theorem PySem.W.Fast.tw1743021171728507816 : True := trivial
theorem PySem.W.Fast.tw7197276837905525118 : True := trivial
theorem PySem.W.Fast.tw7104250991717787566 : True := trivial
theorem PySem.W.Fast.tw10160225056031045595 : True := trivial
theorem PySem.W.Fast.tw15655904346031917348 : True := trivial
theorem PySem.W.Fast.tw594026568852838275 : True := trivial
theorem PySem.W.Fast.tw15795721048578169553 : True := trivial
theorem PySem.W.Fast.tw6989796375904427162 : True := trivial
theorem PySem.W.Fast.tw7353477108612796834 : True := trivial
theorem PySem.W.Fast.tw18226244034186053351 : True := trivial
theorem PySem.W.Fast.tw2717579734976007589 : True := trivial
theorem PySem.W.Fast.tw8285661420710693833 : True := trivial
theorem PySem.W.Fast.tw13360584572122515862 : True := trivial
theorem PySem.W.Fast.tw12949801936224045504 : True := trivial
theorem PySem.W.Fast.tw13775449122612130205 : True := trivial
theorem PySem.W.Fast.tw11761814614270508222 : True := trivial
theorem PySem.W.Fast.tw15828949773521116553 : True := trivial
theorem PySem.W.Fast.tw13888534904053128089 : True := trivial
theorem PySem.W.Fast.tw3175474994285203542 : True := trivial
theorem PySem.W.Fast.tw15227420803852893372 : True := trivial
theorem PySem.W.Fast.tw2190810187041335074 : True := trivial
theorem PySem.W.Fast.tw10686902813825786615 : True := trivial
theorem PySem.W.Fast.tw5603297241309508977 : True := trivial
theorem PySem.W.Fast.tw4995182994094353310 : True := trivial
theorem PySem.W.Fast.tw18222440463876870036 : True := trivial
theorem PySem.W.Fast.tw14999525622282027885 : True := trivial
theorem PySem.W.Fast.tw1168802408894512608 : True := trivial
theorem PySem.W.Fast.tw10551522662720978419 : True := trivial
theorem PySem.W.Fast.tw4843319574509747365 : True := trivial
theorem PySem.W.Fast.tw17133752021309122225 : True := trivial
theorem PySem.W.Fast.tw854065238168269550 : True := trivial
theorem PySem.W.Fast.tw16540977508640572588 : True := trivial
theorem PySem.W.Fast.tw1359696652170955072 : True := trivial
theorem PySem.W.Fast.tw13224116051106168954 : True := trivial
theorem PySem.W.Fast.tw2873268282457567614 : True := trivial
theorem PySem.W.Fast.tw8184368458107900047 : True := trivial
theorem PySem.W.Fast.tw14703262681218921006 : True := trivial
theorem PySem.W.Fast.tw6452613299242139876 : True := trivial
theorem PySem.W.Fast.tw8286949992635273775 : True := trivial
theorem PySem.W.Fast.tw12963202563744872685 : True := trivial
theorem PySem.W.Fast.tw10843487318139965803 : True := trivial
theorem PySem.W.Fast.tw1624495760738227830 : True := trivial
theorem PySem.W.Fast.tw14522372745270049801 : True := trivial
theorem PySem.W.Fast.tw5906492714656571859 : True := trivial
theorem PySem.W.Fast.tw14153386399999637917 : True := trivial
theorem PySem.W.Fast.tw3785173173656342351 : True := trivial
theorem PySem.W.Fast.tw5593569726280229827 : True := trivial
theorem PySem.W.Fast.tw9905426618626158791 : True := trivial
theorem PySem.W.Fast.tw11525988393424195135 : True := trivial
theorem PySem.W.Fast.tw2829074864955445812 : True := trivial
theorem PySem.W.Fast.tw1492084122890301147 : True := trivial
theorem PySem.W.Fast.tw9781837567523532629 : True := trivial
theorem PySem.W.Fast.tw11469421782179781315 : True := trivial
theorem PySem.W.Fast.tw13150962699647299415 : True := trivial
theorem PySem.W.Fast.tw4461917888047673256 : True := trivial
theorem PySem.W.Fast.tw2606294684280736004 : True := trivial
section
open PySem PySem.W PyProof.Rows
local macro_rules | `(tactic| o_law) => `(tactic| skip)
local macro_rules | `(tactic| k_head) => `(tactic| k_headS)
local macro_rules | `(tactic| w_witness2) => `(tactic| exact ⟨[.list [.int 0, .int 5, .int 0, .int 0]], by decide +kernel, by decide +kernel⟩)
set_option maxHeartbeats 0 in
open_top hd_test for PySem.Challenge.rw_outlineruns_s01_answers
end
set_option Elab.async false
set_option linter.all false
set_option maxRecDepth 100000
namespace L2
open PySem PySem.Spec PyProof.Rows
abbrev Key := Sum Int Str
def keyIs : Key → Value → Bool
  | .inl k, v => Value.isInt k v
  | .inr x, v => Value.isStrOf x v
def keyH (w : World) : Key → Int
  | .inl k => hashInt k
  | .inr x => hashStr w x
theorem keyIs_shape : ∀ {k : Key} {v : Value}, keyIs k v = true → (∃ i t, k = Sum.inl i ∧ v = Value.int i t) ∨ (∃ x t, k = Sum.inr x ∧ v = Value.str x t)
  | .inl i, v, h => by
    obtain ⟨t, e⟩ := Value.isInt_shape (k := i) (v := v) h
    exact .inl ⟨i, t, rfl, e⟩
  | .inr x, v, h => by
    obtain ⟨t, e⟩ := Value.isStrOf_shape (x := x) (v := v) h
    exact .inr ⟨x, t, rfl, e⟩
theorem keyIs_int (i : Int) (t : Tok) : keyIs (.inl i) (.int i t) = true := by simp [keyIs, Value.isInt]
theorem keyIs_str (x : Str) (t : Tok) : keyIs (.inr x) (.str x t) = true := by simp [keyIs, Value.isStrOf]
theorem key_ll (a b : Int) : decide ((Sum.inl a : Key) = Sum.inl b) = (a == b) := by
  by_cases e : a = b
  · subst e; simp
  · have h : ¬ (Sum.inl a : Key) = Sum.inl b := fun q => e (Sum.inl.inj q)
    rw [decide_eq_false h]
    exact (beq_eq_false_iff_ne.mpr e).symm
theorem key_rr (a b : Str) : decide ((Sum.inr a : Key) = Sum.inr b) = decide (a = b) := by
  by_cases e : a = b
  · subst e; simp
  · have h : ¬ (Sum.inr a : Key) = Sum.inr b := fun q => e (Sum.inr.inj q)
    rw [decide_eq_false h, decide_eq_false e]
theorem key_lr (a : Int) (b : Str) : decide ((Sum.inl a : Key) = Sum.inr b) = false := decide_eq_false (fun q => nomatch q)
theorem key_rl (a : Str) (b : Int) : decide ((Sum.inr a : Key) = Sum.inl b) = false := decide_eq_false (fun q => nomatch q)
def mixKind (prog : Program) (w : World) : PySem.KeyKind prog w Key where
  is := keyIs
  hash := keyH w
  inj := fun v a b ha hb => by
    rcases keyIs_shape ha with ⟨i, t, rfl, rfl⟩ | ⟨x, t, rfl, rfl⟩
    · rcases keyIs_shape hb with ⟨j, u, rfl, e⟩ | ⟨y, u, rfl, e⟩
      · injection e with e1 _; rw [e1]
      · exact nomatch e
    · rcases keyIs_shape hb with ⟨j, u, rfl, e⟩ | ⟨y, u, rfl, e⟩
      · exact nomatch e
      · injection e with e1 _; rw [e1]
  byValue := fun k v h => by
    rcases keyIs_shape h with ⟨i, t, rfl, rfl⟩ | ⟨x, t, rfl, rfl⟩ <;> rfl
  pyHash := fun hv h => by
    rcases keyIs_shape hv with ⟨i, t, rfl, rfl⟩ | ⟨x, t, rfl, rfl⟩
    · exact wpAny_pyHash_int h
    · exact wpAny_pyHash_str h
  eqBool := fun hu hv h => by
    rcases keyIs_shape hu with ⟨i, t, rfl, rfl⟩ | ⟨x, t, rfl, rfl⟩
    · rcases keyIs_shape hv with ⟨j, u, rfl, rfl⟩ | ⟨y, u, rfl, rfl⟩
      · rw [key_ll] at h; exact wpAny_eqBool_int h
      · rw [key_lr] at h; exact SeqAt.EqAt.int_str i t y u _ _ _ _ h
    · rcases keyIs_shape hv with ⟨j, u, rfl, rfl⟩ | ⟨y, u, rfl, rfl⟩
      · rw [key_rl] at h; exact SeqAt.EqAt.str_int x t j u _ _ _ _ h
      · rw [key_rr] at h; exact wpAny_eqBool_str h
  «strs» := fun k x t v h => by
    rcases keyIs_shape h with ⟨i, u, rfl, e⟩ | ⟨y, u, rfl, e⟩
    · exact nomatch e
    · injection e with e1 _
      subst e1
      cases v <;> rfl
theorem mixKind_int (prog : Program) (w : World) (i : Int) (t : Tok) : (mixKind prog w).is (.inl i) (.int i t) = true := keyIs_int i t
theorem mixKind_str (prog : Program) (w : World) (x : Str) (t : Tok) : (mixKind prog w).is (.inr x) (.str x t) = true := keyIs_str x t
end L2
namespace L2
open PySem PySem.Spec PyProof.Rows
inductive V where
  | non | bl (b : Bool) | int (i : Int) | str (x : Str) | byt (b : Array UInt8) | flt (b : UInt64) | ref (a : Addr) | ty (n : String)
  deriving DecidableEq
def RelV : V → Value → Prop
  | .non, u => u = Value.none
  | .bl b, u => u = Value.bool b
  | .int i, u => ∃ t, u = Value.int i t
  | .str x, u => ∃ t, u = Value.str x t
  | .byt b, u => ∃ t, u = Value.bytes b t
  | .flt b, u => ∃ t, u = Value.float b t
  | .ref a, u => u = Value.ref a
  | .ty n, u => u = Value.type n
abbrev Vals : List V → List Value → Prop := Paired RelV
theorem Vals.length {xs : List V} {us : List Value} (r : Vals xs us) : xs.length = us.length := Paired.length r
theorem Vals.get : ∀ {xs : List V} {us : List Value} {i : Nat} {x : V}, Vals xs us → xs[i]? = some x → ∃ u, us[i]? = some u ∧ RelV x u
  | _, _, _, _, .nil, e => by simp at e
  | _, _, 0, _, .cons r _, e => by simp at e; subst e; exact ⟨_, rfl, r⟩
  | _, _, i + 1, x, .cons _ t, e => by
    obtain ⟨u, h1, h2⟩ := Vals.get (i := i) (x := x) t (by simpa using e)
    exact ⟨u, by simpa using h1, h2⟩
theorem Vals.set {x : V} {u : Value} (r : RelV x u) : ∀ {xs : List V} {us : List Value} (i : Nat), Vals xs us → Vals (xs.set i x) (us.set i u)
  | _, _, _, .nil => .nil
  | _, _, 0, .cons _ t => .cons r t
  | _, _, i + 1, .cons q t => .cons q (Vals.set r i t)
theorem Vals.append : ∀ {xs ys : List V} {us ws : List Value}, Vals xs us → Vals ys ws → Vals (xs ++ ys) (us ++ ws)
  | _, _, _, _, .nil, s => s
  | _, _, _, _, .cons r t, s => .cons r (Vals.append t s)
theorem Vals.take : ∀ {xs : List V} {us : List Value} (n : Nat), Vals xs us → Vals (xs.take n) (us.take n)
  | _, _, 0, _ => .nil
  | _, _, _ + 1, .nil => .nil
  | _, _, n + 1, .cons r t => .cons r (Vals.take n t)
theorem Vals.drop : ∀ {xs : List V} {us : List Value} (n : Nat), Vals xs us → Vals (xs.drop n) (us.drop n)
  | _, _, 0, r => r
  | _, _, _ + 1, .nil => .nil
  | _, _, n + 1, .cons _ t => Vals.drop n t
def RelO : Option V → Option Value → Prop
  | some v, some u => RelV v u
  | none, none => True
  | _, _ => False
def KV {κ : Type} : List (κ × V) → List (κ × Value) → Prop := Paired fun (p : κ × V) (q : κ × Value) => p.1 = q.1 ∧ RelV p.2 q.2
def kV : Key → V
  | .inl i => .int i
  | .inr x => .str x
inductive HO where
  | lst (xs : List V)
  | tup (xs : List V)
  | dK (kvs : List (Key × V)) | dT (kvs : List (List Key × V))
  | set (S : Int → Bool) (n : Nat)
  | ins (C dx : Addr) (fs : List (Str × V))
  | own (x : Addr)
  | xd (fs : List (Str × V))
  | met (f x : Addr)
  | rng (lo hi : Int)
  | frz (o : Obj) (u : HO)
  | tbl (ps : Array Value)
  | ext (φ : Heap → Prop)
abbrev Hp := Addr → Option HO
def upd (H : Hp) (a : Addr) (o : HO) : Hp := fun b => if b = a then some o else H b
theorem upd_same {H : Hp} {a : Addr} {o : HO} : upd H a o a = some o := by unfold upd; rw [if_pos rfl]
theorem upd_ne {H : Hp} {a b : Addr} {o : HO} (h : b ≠ a) : upd H a o b = H b := by unfold upd; rw [if_neg h]
theorem upd_upd {H : Hp} {a : Addr} {o u : HO} : upd (upd H a o) a u = upd H a u := by
  funext b; unfold upd; split <;> rfl
theorem ne_of {H : Hp} {a b : Addr} {o u : HO} (h : H a = some o) (h' : H b = some u) (d : o ≠ u) : a ≠ b := by
  intro e; subst e; rw [h] at h'; exact d (Option.some.inj h')
theorem ne_of_none {H : Hp} {a b : Addr} {o : HO} (h : H a = some o) (h' : H b = none) : a ≠ b := by
  intro e; subst e; rw [h] at h'; cases h'
section
variable (P : Program) (w : World)
def ObjOk (H : Hp) (h : Heap) (a : Addr) : HO → Prop
  | .lst xs => xs.length ≤ sizeLine ∧ ∃ (its : List Value) (n : Nat), Vals xs its ∧ h.get? a = some { cls := .type "list", data := .seq its.toArray n }
  | .tup xs => xs.length ≤ sizeLine ∧ ∃ its : List Value, Vals xs its ∧ IsTup h a its.toArray
  | .dK kvs => kvs.length ≤ sizeLine ∧ (a == sysModules) = false ∧ ∃ vs, KV kvs vs ∧ h.DictOf (mixKind P w) a vs
  | .dT kvs => kvs.length ≤ sizeLine ∧ (a == sysModules) = false ∧ ∃ xs : List (List Key × Addr × Value),
      Paired (fun (p : List Key × V) (q : List Key × Addr × Value) => p.1 = q.1 ∧ H q.2.1 = some (.tup (p.1.map kV)) ∧ RelV p.2 q.2.2) kvs xs ∧
      ∃ o es ep, h.get? a = some o ∧ o.ExactDict ∧ o.data = .dict es ep ∧ es.toList = xs.map (entryOfKey (tupleKind (mixKind P w))) ∧ (xs.map (·.1)).Nodup
  | .set S n => h.SetOf (intKind P w) a S n
  | .ins C dx fs => H dx = some (.own a) ∧ fs.length ≤ 1000 ∧ dx ≠ a ∧ h.get? a = some (PySem.W.instObj C dx) ∧
      ∃ mA, h.Ns1 dx mA ∧ (∀ f, RelO (fs.lookup f) (mA f)) ∧ PySem.Within mA (fs.map (·.1))
  | .own _ => ∃ o, h.get? a = some o
  | .xd fs => ∃ mA, h.Ns1 a mA ∧ ∀ f, RelO (fs.lookup f) (mA f)
  | .rng lo hi => ∃ t u v, h.get? a = some { cls := .type "range", data := .fields #[.int lo t, .int hi u, .int 1 v] }
  | .frz o u => h.get? a = some o ∧ ObjOk H h a u
  | .tbl ps => h.get? a = some { cls := .none, data := .fields ps }
  | .met f x => h.get? a = some (PySem.W.methodObj (.ref f) (.ref x))
  | .ext φ => φ h ∧ (∃ o, h.get? a = some o) ∧ ∀ h1 h2 : Heap, φ h1 → (∀ o, h1.get? a = some o → h2.get? a = some o) → φ h2
def HOk (H : Hp) (h : Heap) : Prop := ∀ a o, H a = some o → ObjOk P w H h a o
end
section
variable {P : Program} {w : World} {H H' : Hp} {h h' : Heap} {a : Addr} {o : HO}
theorem ObjOk.lt (x : ObjOk P w H h a o) : a < h.objs.size := by
  cases o with
  | lst xs => obtain ⟨_, _, _, _, e⟩ := x; exact Heap.lt_size e
  | tup xs => obtain ⟨_, _, _, p⟩ := x; exact p.lt
  | dK kvs => obtain ⟨_, _, _, _, o, _, _, e, _⟩ := x; exact Heap.lt_size e
  | dT kvs => obtain ⟨_, _, _, _, o, _, _, e, _⟩ := x; exact Heap.lt_size e
  | set S n => obtain ⟨o, _, _, _, e, _⟩ := x; exact Heap.lt_size e
  | ins C dx fs => obtain ⟨_, _, _, e, _⟩ := x; exact Heap.lt_size e
  | own y => obtain ⟨_, e⟩ := x; exact Heap.lt_size e
  | xd fs => obtain ⟨_, ⟨_, _, _, e, _⟩, _⟩ := x; exact Heap.lt_size e
  | rng lo hi => obtain ⟨_, _, _, e⟩ := x; exact Heap.lt_size e
  | frz ob u => obtain ⟨e, _⟩ := x; exact Heap.lt_size e
  | tbl ps => exact Heap.lt_size (show h.get? a = some _ from x)
  | met f y => exact Heap.lt_size (show h.get? a = some _ from x)
  | ext φ => obtain ⟨_, ⟨_, e⟩, _⟩ := x; exact Heap.lt_size e
theorem Paired.mapP {α β : Type} {F G : α → β → Prop} : ∀ {l₁ : List α} {l₂ : List β}, Paired F l₁ l₂ → (∀ a b, F a b → G a b) → Paired G l₁ l₂
  | _, _, .nil, _ => .nil
  | _, _, .cons r t, f => .cons (f _ _ r) (Paired.mapP t f)
theorem ObjOk.stay (x : ObjOk P w H h a o) (k : ∀ b u, (b = a ∨ H b = some (.own a)) → h.get? b = some u → h'.get? b = some u)
    (ho : ∀ b, H b = some (.own a) → H' b = some (.own a)) (ht : ∀ b xs, H b = some (.tup xs) → H' b = some (.tup xs)) : ObjOk P w H' h' a o := by
  induction o with
  | lst xs => obtain ⟨z, its, n, r, e⟩ := x; exact ⟨z, its, n, r, k _ _ (.inl rfl) e⟩
  | tup xs => obtain ⟨z, its, r, ob, e, c⟩ := x; exact ⟨z, its, r, ob, k _ _ (.inl rfl) e, c⟩
  | dK kvs => obtain ⟨z, y, vs, r, ob, es, ep, e, c⟩ := x; exact ⟨z, y, vs, r, ob, es, ep, k _ _ (.inl rfl) e, c⟩
  | dT kvs =>
    obtain ⟨z, y, xs, r, ob, es, ep, e, c⟩ := x
    exact ⟨z, y, xs, Paired.mapP r fun p q z => ⟨z.1, ht _ _ z.2.1, z.2.2⟩, ob, es, ep, k _ _ (.inl rfl) e, c⟩
  | set S n => obtain ⟨ob, es, ep, t, e, c⟩ := x; exact ⟨ob, es, ep, t, k _ _ (.inl rfl) e, c⟩
  | ins C dx fs =>
    obtain ⟨d, z, ne, e, mA, ⟨od, es, ep, e2, c⟩, r⟩ := x
    exact ⟨ho _ d, z, ne, k _ _ (.inl rfl) e, mA, ⟨od, es, ep, k _ _ (.inr d) e2, c⟩, r⟩
  | own y => obtain ⟨ob, e⟩ := x; exact ⟨ob, k _ _ (.inl rfl) e⟩
  | xd fs => obtain ⟨mA, ⟨od, es, ep, e, c⟩, r⟩ := x; exact ⟨mA, ⟨od, es, ep, k _ _ (.inl rfl) e, c⟩, r⟩
  | rng lo hi => obtain ⟨t, u, v, e⟩ := x; exact ⟨t, u, v, k _ _ (.inl rfl) e⟩
  | frz ob u ih => obtain ⟨e, q⟩ := x; exact ⟨k _ _ (.inl rfl) e, ih q⟩
  | tbl ps =>
    have e : h.get? a = some { cls := .none, data := .fields ps } := x
    show h'.get? a = some { cls := .none, data := .fields ps }
    exact k a _ (.inl rfl) e
  | met f y =>
    have e : h.get? a = some (PySem.W.methodObj (.ref f) (.ref y)) := x
    show h'.get? a = some (PySem.W.methodObj (.ref f) (.ref y))
    exact k a _ (.inl rfl) e
  | ext φ => obtain ⟨p, ⟨o, e⟩, st⟩ := x; exact ⟨st _ _ p fun o q => k _ _ (.inl rfl) q, ⟨o, k _ _ (.inl rfl) e⟩, st⟩
theorem HOk.lt (x : HOk P w H h) (e : H a = some o) : a < h.objs.size := (x a o e).lt
theorem HOk.fresh (x : HOk P w H h) (e : h.objs.size ≤ a) : H a = none := by
  cases q : H a with
  | none => rfl
  | some u => exact absurd (Nat.lt_of_lt_of_le (x.lt q) e) (Nat.lt_irrefl _)
theorem HOk.kept (x : HOk P w H h) (k : ∀ b u, h.get? b = some u → h'.get? b = some u) : HOk P w H h' := fun a o e =>
  (x a o e).stay (fun b u _ q => k b u q) (fun _ q => q) fun _ _ q => q
theorem HOk.laid (x : HOk P w H h) (k : ∀ b u, h.get? b = some u → h'.get? b = some u) (hp : h.objs.size ≤ a) (new : ObjOk P w (upd H a o) h' a o) : HOk P w (upd H a o) h' := fun b u e => by
  have hn := x.fresh hp
  by_cases hb : b = a
  · subst hb; rw [upd_same] at e; cases e; exact new
  · rw [upd_ne hb] at e
    exact (x b u e).stay (fun c v _ q => k c v q) (fun c q => by rw [upd_ne (ne_of_none q hn)]; exact q) fun c xs q => by rw [upd_ne (ne_of_none q hn)]; exact q
end
def Rd (H : Hp) (a : Addr) (u : HO) : Prop := H a = some u ∨ ∃ o, H a = some (.frz o u)
theorem Rd.ok {P : Program} {w : World} {H : Hp} {h : Heap} {a : Addr} {u : HO} (r : Rd H a u) (x : HOk P w H h) : ObjOk P w H h a u := by
  rcases r with r | ⟨o, r⟩
  · exact x a u r
  · obtain ⟨_, q⟩ := x a _ r
    exact q
def Mut : Option HO → Prop
  | some (.lst _) => True
  | some (.dK _) => True
  | some (.dT _) => True
  | some (.set _ _) => True
  | some (.ins _ _ _) => True
  | some (.ext _) => True
  | _ => False
section
variable {P : Program} {w : World} {H : Hp} {h h' : Heap} {x e : Addr} {o' : HO}
theorem HOk.write (ok : HOk P w H h) (mu : Mut (H x)) (he : e = x ∨ H e = some (.own x)) (k : ∀ b u, b ≠ e → h.get? b = some u → h'.get? b = some u) (heo : ∃ u, h'.get? e = some u)
    (new : ObjOk P w (upd H x o') h' x o') : HOk P w (upd H x o') h' := fun b u q => by
  have nown : ∀ c y, H c = some (.own y) → c ≠ x := fun c y r z => by subst z; rw [r] at mu; exact mu
  have ntup : ∀ c xs, H c = some (.tup xs) → c ≠ x := fun c xs r z => by subst z; rw [r] at mu; exact mu
  by_cases hb : b = x
  · subst hb; rw [upd_same] at q; cases q; exact new
  · rw [upd_ne hb] at q
    by_cases hbe : b = e
    · have q' : H b = some (.own x) := by
        rcases he with z | z
        · exact absurd (hbe.trans z) hb
        · rw [hbe]; exact z
      rw [q] at q'; cases q'
      obtain ⟨v, hv⟩ := heo
      exact ⟨v, by rw [hbe]; exact hv⟩
    · refine (ok b u q).stay (fun c v hc r => k c v ?_ r) (fun c r => by rw [upd_ne (nown c b r)]; exact r) fun c xs r => by rw [upd_ne (ntup c xs r)]; exact r
      rcases hc with rfl | hc
      · exact hbe
      · rintro rfl
        rcases he with z | z
        · exact nown c b hc z
        · rw [hc] at z; cases z; exact hb rfl
end
structure Un (fs ex : List Addr) (H H' : Hp) (h h' : Heap) : Prop where
  keep : ∀ b o, h.get? b = some o → H b = none → b ∉ fs → b ∉ ex → h'.get? b = some o
  slot : ∀ b o, h.get? b = some o → H b = none → b ∈ fs → b ∉ ex → ∃ sl, h'.get? b = some { o with slots := sl }
  free : ∀ b o, h.get? b = some o → H b = none → b ∉ ex → H' b = none
  there : ∀ b o, h.get? b = some o → b ∉ ex → ∃ o', h'.get? b = some o'
  tups : ∀ b xs, H b = some (.tup xs) → H' b = some (.tup xs)
  frzs : ∀ b o u, H b = some (.frz o u) → H' b = some (.frz o u)
  tbls : ∀ b ps, H b = some (.tbl ps) → ∃ more, H' b = some (.tbl (ps ++ more))
section
variable {fs fs' ex ex' : List Addr} {H H1 H2 : Hp} {h h1 h2 h' : Heap} {a x e : Addr} {o : HO}
theorem Un.any (u : Un fs ex H H1 h h1) {b : Addr} {ob : Obj} (q : h.get? b = some ob) (n : H b = none) (hx : b ∉ ex) : ∃ sl, h1.get? b = some { ob with slots := sl } := by
  by_cases hb : b ∈ fs
  · exact u.slot b ob q n hb hx
  · exact ⟨ob.slots, u.keep b ob q n hb hx⟩
theorem Un.kept (k : ∀ b u, h.get? b = some u → h'.get? b = some u) : Un fs ex H H h h' :=
  ⟨fun b ob q _ _ _ => k b ob q, fun b ob q _ _ _ => ⟨ob.slots, k b ob q⟩, fun _ _ _ n _ => n, fun b ob q _ => ⟨ob, k b ob q⟩, fun _ _ q => q, fun _ _ _ q => q, fun _ ps q => ⟨#[], by rw [q]; simp⟩⟩
theorem Un.refl : Un fs ex H H h h := Un.kept fun _ _ q => q
theorem Un.laid (k : ∀ b u, h.get? b = some u → h'.get? b = some u) (hp : h.objs.size ≤ a) (hn : H a = none) : Un fs ex H (upd H a o) h h' where
  keep := fun b u q _ _ _ => k b u q
  slot := fun b u q _ _ _ => ⟨u.slots, k b u q⟩
  free := fun b u q n _ => by rw [upd_ne (Nat.ne_of_lt (Nat.lt_of_lt_of_le (Heap.lt_size q) hp))]; exact n
  there := fun b u q _ => ⟨u, k b u q⟩
  tups := fun b xs q => by rw [upd_ne (ne_of_none q hn)]; exact q
  frzs := fun b u xs q => by rw [upd_ne (ne_of_none q hn)]; exact q
  tbls := fun b ps q => ⟨#[], by rw [upd_ne (ne_of_none q hn), q]; simp⟩
theorem Un.write (mu : Mut (H x)) (he : e = x ∨ H e = some (.own x)) (k : ∀ b u, b ≠ e → h.get? b = some u → h'.get? b = some u) (heo : ∃ u, h'.get? e = some u) : Un fs ex H (upd H x o) h h' := by
  have hx : ∀ b, H b = none → b ≠ x := fun b n z => by subst z; rw [n] at mu; exact mu
  have hb : ∀ b, H b = none → b ≠ e := fun b n z => by
    subst z
    rcases he with r | r
    · exact hx b n r
    · rw [n] at r; cases r
  have hm : ∀ b u, H b = some u → ¬ Mut (some u) → b ≠ x := fun b u q nm z => by subst z; rw [q] at mu; exact nm mu
  refine ⟨fun b u q n _ _ => k b u (hb b n) q, fun b u q n _ _ => ⟨u.slots, k b u (hb b n) q⟩, fun b u q n _ => by rw [upd_ne (hx b n)]; exact n, fun b u q _ => ?_,
    fun b xs q => by rw [upd_ne (hm b _ q fun z => z)]; exact q, fun b u xs q => by rw [upd_ne (hm b _ q fun z => z)]; exact q, fun b ps q => ⟨#[], by rw [upd_ne (hm b _ q fun z => z), q]; simp⟩⟩
  by_cases hbe : b = e
  · subst hbe; exact heo
  · exact ⟨u, k b u hbe q⟩
end
def trk (h : Heap) (H : Hp) : List Addr := (List.range h.objs.size).filter fun a => (H a).isSome
def hidT (h : Heap) (H : Hp) : Heap := PySem.W.hideAll h (trk h H)
theorem hidT_size (h : Heap) (H : Hp) : (hidT h H).objs.size = h.objs.size := PySem.W.hideAll_size _ _
theorem hidT_get {h : Heap} {H : Hp} {b : Addr} {o : Obj} (e : h.get? b = some o) (n : H b = none) : (hidT h H).get? b = some o :=
  PySem.W.hideAll_get _ e fun hm => by
    have q : (H b).isSome = true := (List.mem_filter.mp hm).2
    rw [n] at q; simp at q
theorem of_hidT {h : Heap} {H : Hp} {b : Addr} {o : Obj} (e : (hidT h H).get? b = some o) : h.get? b = some o ∧ H b = none := by
  have e' : h.get? b = some o := PySem.W.of_hideAll (trk h H) e
  refine ⟨e', ?_⟩
  cases q : H b with
  | none => rfl
  | some x =>
    have hm : b ∈ trk h H := List.mem_filter.mpr ⟨List.mem_range.mpr (Heap.lt_size e'), by simp [q]⟩
    have z : (hidT h H).get? b = none := PySem.W.hideAll_none (trk h H) hm
    rw [z] at e; cases e
end L2
namespace L2
open PySem PySem.Spec PyProof.Rows
structure Mod (K : PySem.W.Frag) (mg : Str → Option Value) (base : Heap) : Prop where
  kin : K.In base
  glob : base.Ns mainGlobals mg
  blt : ∃ mb, base.Ns builtinsNs mb ∧ ∀ x : Str, x ≠ "__name__" → mb x = bootBuiltins x
  nolimit : base.NoLimit
structure Cx where
  prog : Program
  w : World
  K : PySem.W.Frag
  mg : Str → Option Value
  base : Heap
  A : Around
  N : List Str
  s_0 : Shared
  H_0 : Hp
  env : Env
  outer : List Env
  stack : List Env
  ex : List Addr
  fn : Str → Bool
  calm : Bool
  pn : List (Addr × Obj)
  xe : Value → Shared → Prop
def frs (l : List Env) : List Addr := l.filterMap (·.frame)
abbrev Cx.fs (X : Cx) : List Addr := frs X.outer
def Vis (sc : Scope) (x : Str) : Prop := sc.names.lookup x = some .local ∨ sc.names.lookup x = some .cell ∨ sc.names.lookup x = some .free
def Loc (sc : Scope) (x : Str) : Prop := sc.names.lookup x = some .local ∨ sc.names.lookup x = some .cell
def Look (env : Env) (h : Heap) (m : Str → Option Value) (x : Str) (u : Value) : Prop :=
  (env.kindOf x = some .local ∧ m x = some u) ∨ ((env.kindOf x = some .cell ∨ env.kindOf x = some .free) ∧ ∃ c, env.cells.lookup x = some c ∧ h.IsCell c (some u))
structure Cx.Ok (X : Cx) : Prop where
  mod : Mod X.K X.mg X.base
  kind : X.env.scope.kind = .function
  glob : X.env.globals = mainGlobals
  blt : X.env.builtins = builtinsNs
  above : X.s_0.heap.objs.size ≤ X.env.locals
  inj : ∀ x y c, X.env.cells.lookup x = some c → X.env.cells.lookup y = some c → x = y
  has : ∀ x, (X.env.kindOf x = some .cell ∨ X.env.kindOf x = some .free) → ∃ c, X.env.cells.lookup x = some c
  cab : ∀ x c, X.fn x = true → X.env.cells.lookup x = some c → X.s_0.heap.objs.size ≤ c
  hd : X.calm = true → X.A.handled = none
  frames : X.A.frames = some X.stack
  stk : X.stack = X.outer ∨ (X.stack = X.env :: X.outer ∧ X.env.frame = some X.env.locals)
  exf : ∀ b ∈ X.ex, b ≠ X.env.locals ∧ ∀ x c, X.env.cells.lookup x = some c → c ≠ b
  bs : ∀ b o, X.base.get? b = some o → X.s_0.heap.get? b = some o ∧ X.H_0 b = none
  bsz : X.base.objs.size ≤ X.s_0.heap.objs.size
  noex : ∀ b o, X.base.get? b = some o → b ∉ X.ex
  exfs : ∀ b ∈ X.ex, b ∉ X.fs
  funs : X.s_0.heap.FunFrames X.base X.outer
  frf : ∀ b ∈ X.fs, X.H_0 b = none
structure Inv (X : Cx) (pins : List (Addr × Obj)) (σ : List (Option V)) (H : Hp) (s : Shared) : Prop where
  ok : X.Ok
  os : s.os = X.s_0.os
  bare : AllBare s.gens
  base : Un X.fs X.ex X.H_0 H X.s_0.heap s.heap
  loc : ∃ m, s.heap.Ns X.env.locals m ∧ ∀ (i : Nat) (x : Str) (v : V), X.N[i]? = some x → σ[i]? = some (some v) → Vis X.env.scope x → ∃ u, RelV v u ∧ Look X.env s.heap m x u
  cell : ∀ x c, X.env.cells.lookup x = some c → ∃ v, s.heap.IsCell c v
  free : H X.env.locals = none
  freeC : ∀ x c, X.env.cells.lookup x = some c → H c = none
  pin : ∀ p ∈ X.pn ++ pins, s.heap.get? p.1 = some p.2 ∧ H p.1 = none ∧ p.1 ≠ X.env.locals ∧ p.1 ∉ X.fs ∧ ∀ v, p.2.data ≠ .cell v
  hok : HOk X.prog X.w H s.heap
  len : σ.length = X.N.length
section
variable {X : Cx} {pins : List (Addr × Obj)} {σ : List (Option V)} {H H' : Hp} {s : Shared} {h' : Heap}
theorem Cx.Ok.nofr (ok : X.Ok) {b : Addr} {o : Obj} (e : X.base.get? b = some o) : b ∉ X.fs := fun hb => by
  have := (ok.funs.mem hb).1
  rw [e] at this; cases this
theorem Inv.bs (I : Inv X pins σ H s) : ∀ b o, X.base.get? b = some o → s.heap.get? b = some o ∧ H b = none := fun b o e =>
  ⟨I.base.keep b o (I.ok.bs b o e).1 (I.ok.bs b o e).2 (I.ok.nofr e) (I.ok.noex b o e), I.base.free b o (I.ok.bs b o e).1 (I.ok.bs b o e).2 (I.ok.noex b o e)⟩
theorem Inv.bk (I : Inv X pins σ H s) : ∀ b o, X.base.get? b = some o → s.heap.get? b = some o := fun b o e => (I.bs b o e).1
theorem Inv.mod (I : Inv X pins σ H s) : Mod X.K X.mg X.base := I.ok.mod
theorem Inv.kIn (I : Inv X pins σ H s) : X.K.In s.heap := I.ok.mod.kin.keeps I.bk
theorem Inv.lt (I : Inv X pins σ H s) : X.env.locals < s.heap.objs.size := let ⟨_, hn, _⟩ := I.loc; hn.lt
theorem Inv.sz (I : Inv X pins σ H s) : X.s_0.heap.objs.size ≤ s.heap.objs.size := Nat.le_trans I.ok.above (Nat.le_of_lt I.lt)
theorem Inv.nofs (I : Inv X pins σ H s) {a : Addr} (h : s.heap.objs.size ≤ a) : a ∉ X.fs := fun hb => by
  obtain ⟨_, o, ho, _⟩ := I.ok.funs.mem hb
  exact absurd (Nat.lt_of_lt_of_le (Heap.lt_size ho) (Nat.le_trans I.sz h)) (Nat.lt_irrefl _)
theorem Inv.cne (I : Inv X pins σ H s) : ∀ x c, X.env.cells.lookup x = some c → c ≠ X.env.locals := fun x c e z => by
  obtain ⟨v, o, ho, hd⟩ := I.cell x c e
  obtain ⟨m, ⟨o', es, ep, ho', hd', _⟩, _⟩ := I.loc
  rw [z, ho'] at ho; cases ho; rw [hd'] at hd; cases hd
theorem Inv.funs (I : Inv X pins σ H s) : s.heap.FunFrames X.base X.outer := by
  have all : ∀ (l : List Env), (∀ b ∈ frs l, b ∈ X.fs) → X.s_0.heap.FunFrames X.base l → s.heap.FunFrames X.base l := by
    intro l
    induction l with
    | nil => intro _ _; trivial
    | cons env r ih =>
      intro hs hl
      obtain ⟨hk, ⟨L, o, hf, hn, ho, hd⟩, hr⟩ := hl
      have hL : L ∈ X.fs := hs L (by unfold frs; rw [List.filterMap_cons, hf]; exact List.mem_cons_self)
      obtain ⟨sl, e⟩ := I.base.slot L o ho (I.ok.frf L hL) hL fun z => I.ok.exfs L z hL
      exact ⟨hk, ⟨L, _, hf, hn, e, hd⟩, ih (fun b hb => hs b (by unfold frs; rw [List.filterMap_cons, hf]; exact List.mem_cons_of_mem _ hb)) hr⟩
  exact all X.outer (fun _ hb => hb) I.ok.funs
theorem Inv.stack (I : Inv X pins σ H s) : s.heap.FunFrames X.base X.stack := by
  rcases I.ok.stk with e | ⟨e, hf⟩
  · rw [e]; exact I.funs
  · rw [e]
    obtain ⟨m, hn, _⟩ := I.loc
    refine .cons (by rw [I.ok.kind]; decide) hf hn ?_ I.funs
    exact Heap.get?_none_of_le (Nat.le_trans I.ok.bsz I.ok.above)
theorem Inv.stkSub (I : Inv X pins σ H s) : ∀ b ∈ frs X.stack, b ∈ X.env.locals :: X.fs := fun b hb => by
  rcases I.ok.stk with e | ⟨e, hf⟩
  · rw [e] at hb; exact List.mem_cons_of_mem _ hb
  · rw [e] at hb
    unfold frs at hb
    rw [List.filterMap_cons, hf] at hb
    exact hb
theorem Inv.stkFree (I : Inv X pins σ H s) : ∀ b ∈ frs X.stack, H b = none := fun b hb => by
  rcases List.mem_cons.mp (I.stkSub b hb) with e | hb
  · rw [e]; exact I.free
  · obtain ⟨_, o, ho, _⟩ := I.ok.funs.mem hb
    exact I.base.free b o ho (I.ok.frf b hb) fun z => I.ok.exfs b z hb
theorem Inv.step {g' : Array GenState} {t' : Nat} {d' : Drawn} {ch : List Addr} (I : Inv X pins σ H s)
    (hch : ∀ b ∈ ch, (b ∈ X.ex ∨ X.s_0.heap.objs.size ≤ b) ∧ b ≠ X.env.locals ∧ (∀ x c, X.env.cells.lookup x = some c → c ≠ b) ∧ ∀ p ∈ X.pn ++ pins, p.1 ≠ b)
    (keep : ∀ b o, b ≠ X.env.locals → b ∉ X.fs → b ∉ ch → s.heap.get? b = some o → H b = none → h'.get? b = some o)
    (slot : ∀ b o, b ≠ X.env.locals → b ∈ X.fs → b ∉ ch → s.heap.get? b = some o → H b = none → ∃ sl, h'.get? b = some { o with slots := sl }) (free : ∀ b o, b ∉ ch → s.heap.get? b = some o → H b = none → H' b = none)
    (there : ∀ b o, b ∉ ch → s.heap.get? b = some o → ∃ o', h'.get? b = some o')
    (tups : ∀ b xs, H b = some (.tup xs) → H' b = some (.tup xs)) (frzs : ∀ b o u, H b = some (.frz o u) → H' b = some (.frz o u)) (tbls : ∀ b ps, H b = some (.tbl ps) → ∃ more, H' b = some (.tbl (ps ++ more)))
    (ns : ∀ m, s.heap.Ns X.env.locals m → h'.Ns X.env.locals m) (hok : HOk X.prog X.w H' h') (hg : AllBare g') :
    Inv X pins σ H' { s with heap := h', gens := g', drawn := d', toks := t' } := by
  have neL : ∀ b o, X.s_0.heap.get? b = some o → b ≠ X.env.locals := fun b o e => Nat.ne_of_lt (Nat.lt_of_lt_of_le (Heap.lt_size e) I.ok.above)
  have neC : ∀ b o, X.s_0.heap.get? b = some o → b ∉ X.ex → b ∉ ch := fun b o e hx hb => by
    rcases (hch b hb).1 with z | z
    · exact hx z
    · exact absurd (Nat.lt_of_lt_of_le (Heap.lt_size e) z) (Nat.lt_irrefl _)
  have cellK : ∀ x c, X.env.cells.lookup x = some c → ∀ v, s.heap.IsCell c v → h'.IsCell c v := fun x c e v ⟨o, ho, hd⟩ => by
    have nch : c ∉ ch := fun z => (hch c z).2.2.1 x c e rfl
    by_cases hc : c ∈ X.fs
    · obtain ⟨sl, q⟩ := slot c o (I.cne x c e) hc nch ho (I.freeC x c e)
      exact ⟨_, q, hd⟩
    · exact ⟨o, keep c o (I.cne x c e) hc nch ho (I.freeC x c e), hd⟩
  refine ⟨I.ok, I.os, hg, ⟨fun b o e n hb hx => ?_, fun b o e n hb hx => ?_, fun b o e n hx => ?_, fun b o e hx => ?_, fun b xs e => tups b xs (I.base.tups b xs e), fun b o xs e => frzs b o xs (I.base.frzs b o xs e), fun b ps e => ?_⟩, ?_, fun x c e => ?_, ?_, fun x c e => ?_, fun p hp => ?_, hok, I.len⟩
  · exact keep b o (neL b o e) hb (neC b o e hx) (I.base.keep b o e n hb hx) (I.base.free b o e n hx)
  · obtain ⟨sl, e1⟩ := I.base.slot b o e n hb hx
    obtain ⟨sl', e2⟩ := slot b _ (neL b o e) hb (neC b o e hx) e1 (I.base.free b o e n hx)
    exact ⟨sl', e2⟩
  · obtain ⟨o', e1⟩ := I.base.there b o e hx
    exact free b o' (neC b o e hx) e1 (I.base.free b o e n hx)
  · obtain ⟨o', e1⟩ := I.base.there b o e hx
    exact there b o' (neC b o e hx) e1
  · obtain ⟨m1, e1⟩ := I.base.tbls b ps e
    obtain ⟨m2, e2⟩ := tbls b _ e1
    exact ⟨m1 ++ m2, by rw [e2, Array.append_assoc]⟩
  · obtain ⟨m, hn, hl⟩ := I.loc
    refine ⟨m, ns m hn, fun i x v e1 e2 e3 => ?_⟩
    obtain ⟨u, r, l⟩ := hl i x v e1 e2 e3
    refine ⟨u, r, ?_⟩
    rcases l with l | ⟨k, c, e, z⟩
    · exact .inl l
    · exact .inr ⟨k, c, e, cellK x c e _ z⟩
  · obtain ⟨v, z⟩ := I.cell x c e
    exact ⟨v, cellK x c e v z⟩
  · obtain ⟨m, ⟨o, _, _, ho, _⟩, _⟩ := I.loc
    exact free _ o (fun z => (hch _ z).2.1 rfl) ho I.free
  · obtain ⟨v, o, ho, hd⟩ := I.cell x c e
    exact free c o (fun z => (hch c z).2.2.1 x c e rfl) ho (I.freeC x c e)
  · obtain ⟨e, n, ne, nf, d⟩ := I.pin p hp
    have nch : p.1 ∉ ch := fun z => (hch p.1 z).2.2.2 p hp rfl
    exact ⟨keep p.1 p.2 ne nf nch e n, free p.1 p.2 nch e n, ne, nf, d⟩
theorem Inv.un {t' : Nat} (I : Inv X pins σ H s) (u : Un X.fs [] H H' s.heap h') (hok : HOk X.prog X.w H' h') : Inv X pins σ H' { s with heap := h', toks := t' } := by
  obtain ⟨m, ⟨o, es, ep, ho, r⟩, _⟩ := id I.loc
  obtain ⟨sl, hL⟩ := u.any ho I.free (by simp)
  exact I.step (g' := s.gens) (d' := s.drawn) (ch := []) (fun _ z => nomatch z) (fun b o _ hb _ e n => u.keep b o e n hb (by simp)) (fun b o _ hb _ e n => u.slot b o e n hb (by simp)) (fun b o _ e n => u.free b o e n (by simp)) (fun b o _ e => u.there b o e (by simp)) u.tups u.frzs u.tbls (fun m' hm => by
    obtain ⟨o', es', ep', ho', r'⟩ := hm
    rw [ho] at ho'; cases ho'
    exact ⟨_, es', ep', hL, r'⟩) hok I.bare
theorem Inv.call {g' : Array GenState} {t' : Nat} {d' : Drawn} {ch : List Addr} (I : Inv X pins σ H s) (u : Un (frs X.stack) ch H H' s.heap h') (hok : HOk X.prog X.w H' h') (hg : AllBare g')
    (hch : ∀ b ∈ ch, (b ∈ X.ex ∨ X.s_0.heap.objs.size ≤ b) ∧ b ≠ X.env.locals ∧ (∀ x c, X.env.cells.lookup x = some c → c ≠ b) ∧ ∀ p ∈ X.pn ++ pins, p.1 ≠ b) :
    Inv X pins σ H' { s with heap := h', gens := g', drawn := d', toks := t' } := by
  obtain ⟨m, ⟨o, es, ep, ho, r⟩, _⟩ := id I.loc
  obtain ⟨sl, hL⟩ := u.any ho I.free fun z => (hch _ z).2.1 rfl
  exact I.step (ch := ch) hch (fun b o hL hb hc e n => u.keep b o e n (fun z => (List.mem_cons.mp (I.stkSub b z)).elim hL hb) hc) (fun b o _ _ hc e n => u.any e n hc) (fun b o hc e n => u.free b o e n hc) (fun b o hc e => u.there b o e hc) u.tups u.frzs u.tbls (fun m' hm => by
    obtain ⟨o', es', ep', ho', r'⟩ := hm
    rw [ho] at ho'; cases ho'
    exact ⟨_, es', ep', hL, r'⟩) hok hg
theorem Inv.turned {t' : Nat} {it : Addr} (I : Inv X pins σ H s) (k : ∀ b o, b ≠ it → s.heap.get? b = some o → h'.get? b = some o) (hn : H it = none) (hL : it ≠ X.env.locals)
    (h1 : it ∈ X.ex ∨ X.s_0.heap.objs.size ≤ it) (h2 : ∀ x c, X.env.cells.lookup x = some c → c ≠ it) (h3 : ∀ p ∈ X.pn ++ pins, p.1 ≠ it) : Inv X pins σ H { s with heap := h', toks := t' } := by
  have nit : ∀ b u, H b = some u → b ≠ it := fun b u e z => by rw [z, hn] at e; cases e
  refine I.step (g' := s.gens) (d' := s.drawn) (ch := [it]) (fun b hb => ?_) (fun b o _ _ hc e _ => k b o (fun z => hc (by simp [z])) e) (fun b o _ _ hc e _ => ⟨o.slots, k b o (fun z => hc (by simp [z])) e⟩) (fun _ _ _ _ n => n)
    (fun b o hc e => ⟨o, k b o (fun z => hc (by simp [z])) e⟩) (fun _ _ e => e) (fun _ _ _ e => e) (fun b ps e => ⟨#[], by rw [e]; simp⟩) (fun m hm => ?_) (fun b u e => ?_) I.bare
  · have e : b = it := by simpa using hb
    subst e
    exact ⟨h1, hL, h2, h3⟩
  · obtain ⟨o, es, ep, ho, r⟩ := hm
    exact ⟨o, es, ep, k _ o (Ne.symm hL) ho, r⟩
  · refine (I.hok b u e).stay (fun c v hc q => k c v ?_ q) (fun _ q => q) fun _ _ q => q
    rcases hc with z | z
    · rw [z]; exact nit b u e
    · exact nit c _ z
theorem Inv.tok (I : Inv X pins σ H s) (t : Nat) : Inv X pins σ H { s with toks := t } := I.un (h' := s.heap) (t' := t) Un.refl I.hok
theorem Inv.kept {t' : Nat} (I : Inv X pins σ H s) (k : ∀ b u, s.heap.get? b = some u → h'.get? b = some u) : Inv X pins σ H { s with heap := h', toks := t' } := I.un (Un.kept k) (I.hok.kept k)
theorem Inv.laid {a : Addr} {o : HO} {t' : Nat} (I : Inv X pins σ H s) (k : ∀ b u, s.heap.get? b = some u → h'.get? b = some u) (hp : s.heap.objs.size ≤ a) (new : ObjOk X.prog X.w (upd H a o) h' a o) :
    Inv X pins σ (upd H a o) { s with heap := h', toks := t' } := I.un (Un.laid k hp (I.hok.fresh hp)) (I.hok.laid k hp new)
theorem Inv.write {x e : Addr} {o : HO} {t' : Nat} (I : Inv X pins σ H s) (mu : Mut (H x)) (he : e = x ∨ H e = some (.own x)) (k : ∀ b u, b ≠ e → s.heap.get? b = some u → h'.get? b = some u) (heo : ∃ u, h'.get? e = some u)
    (new : ObjOk X.prog X.w (upd H x o) h' x o) : Inv X pins σ (upd H x o) { s with heap := h', toks := t' } := I.un (Un.write mu he k heo) (I.hok.write mu he k heo new)
theorem Inv.weak {σ' : List (Option V)} (I : Inv X pins σ H s) (hl : σ'.length = σ.length) (w : ∀ (i : Nat) v, σ'[i]? = some (some v) → σ[i]? = some (some v)) : Inv X pins σ' H s :=
  ⟨I.ok, I.os, I.bare, I.base, let ⟨m, hn, hl'⟩ := I.loc; ⟨m, hn, fun i x v e1 e2 e3 => hl' i x v e1 (w i v e2) e3⟩, I.cell, I.free, I.freeC, I.pin, I.hok, hl.trans I.len⟩
theorem Inv.pins_of {pins' : List (Addr × Obj)} (I : Inv X pins σ H s) (h : ∀ p ∈ pins', s.heap.get? p.1 = some p.2 ∧ H p.1 = none ∧ p.1 ≠ X.env.locals ∧ p.1 ∉ X.fs ∧ ∀ v, p.2.data ≠ .cell v) : Inv X pins' σ H s :=
  ⟨I.ok, I.os, I.bare, I.base, I.loc, I.cell, I.free, I.freeC, fun p hp => (List.mem_append.mp hp).elim (fun z => I.pin p (List.mem_append_left _ z)) (h p), I.hok, I.len⟩
theorem nodup_ix {N : List Str} (hN : N.Nodup) {i j : Nat} {x : Str} (a : N[i]? = some x) (b : N[j]? = some x) : i = j := by
  obtain ⟨h1, e1⟩ := List.getElem?_eq_some_iff.mp a
  obtain ⟨h2, e2⟩ := List.getElem?_eq_some_iff.mp b
  exact (List.getElem_inj hN).mp (e1.trans e2.symm)
theorem store_ok2 {M : Model} {A : Around} {E : Value → Shared → Prop} {i : Nat} {x : Str} {v : V} {u : Value} {Q : Unit → Shared → Prop} (I : Inv X pins σ H s) (hN : X.N.Nodup) (hi : X.N[i]? = some x) (hx : Loc X.env.scope x) (r : RelV v u)
    (h : ∀ s', Inv X pins (σ.set i (some v)) H s' → (∃ a, Heap.SameBut a s.heap s'.heap ∧ (a = X.env.locals ∨ X.env.cells.lookup x = some a)) → Q () s') (hf : X.fn x = true ∨ X.env.scope.names.lookup x = some .local := by first | exact .inl rfl | exact .inr rfl | assumption) : wpAny M A (storeName X.env x u) Q E s := by
  obtain ⟨m, hn, hl⟩ := id I.loc
  have hcls : (X.env.scope.kind == .class || (X.env.scope.kind == .module && X.env.locals != X.env.globals)) = false := by rw [I.ok.kind]; rfl
  have hiσ : i < σ.length := by rw [I.len]; exact (List.getElem?_eq_some_iff.mp hi).1
  have cne := I.cne
  have tracked : ∀ {a : Addr} {h' : Heap}, (∃ o, s.heap.get? a = some o ∧ H a = none) → Heap.SameBut a s.heap h' → HOk X.prog X.w H h' := fun {a h'} ha hs b ob e => by
    obtain ⟨_, _, hfree⟩ := ha
    refine (I.hok b ob e).stay (fun c w' hc q => (hs.2 c ?_).trans q) (fun _ q => q) fun _ _ q => q
    rintro rfl
    rcases hc with rfl | hc
    · rw [hfree] at e; cases e
    · rw [hfree] at hc; cases hc
  rcases hx with hk | hk
  · refine wpAny_storeName_local hk hn (fun h' hn' hs => ?_) hcls
    obtain ⟨oL, _, _, hoL, _⟩ := id hn
    refine h _ ⟨I.ok, I.os, I.bare, ⟨fun b o e n hb hx => ?_, fun b o e n hb hx => ?_, I.base.free, fun b o e hx => ?_, I.base.tups, I.base.frzs, I.base.tbls⟩, ⟨_, hn', fun j y v' e1 e2 e3 => ?_⟩, fun y c e => ?_, I.free, I.freeC, fun p hp => ?_, tracked ⟨oL, hoL, I.free⟩ hs, by simpa using I.len⟩ ⟨_, hs, .inl rfl⟩
    · exact (hs.2 b (Nat.ne_of_lt (Nat.lt_of_lt_of_le (Heap.lt_size e) I.ok.above))).trans (I.base.keep b o e n hb hx)
    · obtain ⟨sl, e1⟩ := I.base.slot b o e n hb hx
      exact ⟨sl, (hs.2 b (Nat.ne_of_lt (Nat.lt_of_lt_of_le (Heap.lt_size e) I.ok.above))).trans e1⟩
    · obtain ⟨o', e1⟩ := I.base.there b o e hx
      exact ⟨o', (hs.2 b (Nat.ne_of_lt (Nat.lt_of_lt_of_le (Heap.lt_size e) I.ok.above))).trans e1⟩
    · by_cases hj : j = i
      · subst hj
        rw [hi] at e1; cases e1
        rw [List.getElem?_set_self hiσ] at e2
        cases e2
        exact ⟨u, r, .inl ⟨hk, by simp⟩⟩
      · rw [List.getElem?_set_ne (Ne.symm hj)] at e2
        obtain ⟨u', r', q⟩ := hl j y v' e1 e2 e3
        refine ⟨u', r', ?_⟩
        rcases q with ⟨k, e⟩ | ⟨k, c, e, z⟩
        · refine .inl ⟨k, ?_⟩
          have : y ≠ x := fun e => hj (nodup_ix hN e1 (e ▸ hi))
          simp [this, e]
        · exact .inr ⟨k, c, e, z.sameBut hs (cne y c e)⟩
    · obtain ⟨w', z⟩ := I.cell y c e
      exact ⟨w', z.sameBut hs (cne y c e)⟩
    · obtain ⟨e, n, ne, nf, d⟩ := I.pin p hp
      exact ⟨(hs.2 p.1 ne).trans e, n, ne, nf, d⟩
  · have hfn : X.fn x = true := by
      rcases hf with z | z
      · exact z
      · rw [z] at hk; cases hk
    obtain ⟨c, hc⟩ := I.ok.has x (.inl hk)
    obtain ⟨w', z⟩ := I.cell x c hc
    refine wpAny_storeName_cell I.ok.kind hk hc z (fun h' hc' hs => ?_)
    obtain ⟨oc, hoc, hocd⟩ := id z
    refine h { s with heap := h' } ⟨I.ok, I.os, I.bare, ⟨fun b o e n hb hx => ?_, fun b o e n hb hx => ?_, I.base.free, fun b o e hx => ?_, I.base.tups, I.base.frzs, I.base.tbls⟩, ⟨m, hn.sameBut hs (Ne.symm (cne x c hc)), fun j y v' e1 e2 e3 => ?_⟩, fun y c' e => ?_, I.free, I.freeC, fun p hp => ?_, tracked ⟨oc, hoc, I.freeC x c hc⟩ hs, by simpa using I.len⟩ ⟨c, hs, .inr hc⟩
    · exact (hs.2 b (Nat.ne_of_lt (Nat.lt_of_lt_of_le (Heap.lt_size e) (I.ok.cab x c hfn hc)))).trans (I.base.keep b o e n hb hx)
    · obtain ⟨sl, e1⟩ := I.base.slot b o e n hb hx
      exact ⟨sl, (hs.2 b (Nat.ne_of_lt (Nat.lt_of_lt_of_le (Heap.lt_size e) (I.ok.cab x c hfn hc)))).trans e1⟩
    · obtain ⟨o', e1⟩ := I.base.there b o e hx
      exact ⟨o', (hs.2 b (Nat.ne_of_lt (Nat.lt_of_lt_of_le (Heap.lt_size e) (I.ok.cab x c hfn hc)))).trans e1⟩
    · by_cases hj : j = i
      · subst hj
        rw [hi] at e1; cases e1
        rw [List.getElem?_set_self hiσ] at e2
        cases e2
        exact ⟨u, r, .inr ⟨.inl hk, c, hc, hc'⟩⟩
      · rw [List.getElem?_set_ne (Ne.symm hj)] at e2
        obtain ⟨u', r', q⟩ := hl j y v' e1 e2 e3
        refine ⟨u', r', ?_⟩
        rcases q with q | ⟨k, c', e, z'⟩
        · exact .inl q
        · refine .inr ⟨k, c', e, z'.sameBut hs ?_⟩
          rintro rfl
          exact hj (nodup_ix hN e1 (I.ok.inj _ _ _ e hc ▸ hi))
    · by_cases hcc : c' = c
      · subst hcc; exact ⟨_, hc'⟩
      · obtain ⟨w2, z2⟩ := I.cell y c' e
        exact ⟨w2, z2.sameBut hs hcc⟩
    · obtain ⟨e, n, ne, nf, d⟩ := I.pin p hp
      refine ⟨(hs.2 p.1 ?_).trans e, n, ne, nf, d⟩
      intro q
      rw [q, hoc] at e
      have q' : oc = p.2 := Option.some.inj e
      exact d w' (by rw [← q']; exact hocd)
theorem store_ok {M : Model} {A : Around} {E : Value → Shared → Prop} {i : Nat} {x : Str} {v : V} {u : Value} {Q : Unit → Shared → Prop} (I : Inv X pins σ H s) (hN : X.N.Nodup) (hi : X.N[i]? = some x) (hx : Loc X.env.scope x) (r : RelV v u)
    (h : ∀ s', Inv X pins (σ.set i (some v)) H s' → Q () s') (hf : X.fn x = true ∨ X.env.scope.names.lookup x = some .local := by first | exact .inl rfl | exact .inr rfl | assumption) : wpAny M A (storeName X.env x u) Q E s :=
  store_ok2 I hN hi hx r (fun s' I' _ => h s' I') hf
theorem Inv.call' {s' : Shared} {ch : List Addr} (I : Inv X pins σ H s) (ho : s'.os = s.os) (u : Un (frs X.stack) ch H H' s.heap s'.heap) (hok : HOk X.prog X.w H' s'.heap) (hg : AllBare s'.gens)
    (hch : ∀ b ∈ ch, (b ∈ X.ex ∨ X.s_0.heap.objs.size ≤ b) ∧ b ≠ X.env.locals ∧ (∀ x c, X.env.cells.lookup x = some c → c ≠ b) ∧ ∀ p ∈ X.pn ++ pins, p.1 ≠ b) : Inv X pins σ H' s' := by
  obtain ⟨h', g', d', t', o'⟩ := s'
  have e : o' = s.os := ho
  subst e
  exact I.call (g' := g') (t' := t') (d' := d') u hok hg hch
end
abbrev XK := Value → Option Addr → Hp → Prop
abbrev St := List (Option V)
abbrev VK := V → Hp → Prop
abbrev TE := St → Hp → VK → Prop
abbrev TT := St → Hp → (Bool → Hp → Prop) → Prop
abbrev TA := St → Hp → (List V → Hp → Prop) → Prop
structure Ends where
  nx : St → Hp → Prop
  rt : VK
  bk : St → Hp → Prop := fun _ _ => False
  ct : St → Hp → Prop := fun _ _ => False
abbrev TS := Ends → St → Hp → Prop
def EP (X : Cx) (pins : List (Addr × Obj)) (σ : St) (Q : VK) (u : Value) (s' : Shared) : Prop := ∃ v H', Inv X pins σ H' s' ∧ RelV v u ∧ Q v H'
def TP (X : Cx) (pins : List (Addr × Obj)) (σ : St) (Q : Bool → Hp → Prop) (b : Bool) (s' : Shared) : Prop := ∃ H', Inv X pins σ H' s' ∧ Q b H'
def AP (X : Cx) (pins : List (Addr × Obj)) (σ : St) (Q : List V → Hp → Prop) (us : List Value) (s' : Shared) : Prop := ∃ vs H', Inv X pins σ H' s' ∧ Vals vs us ∧ Q vs H'
def SP (X : Cx) (pins : List (Addr × Obj)) (D : Ends) (f : Flow) (s' : Shared) : Prop :=
  match f with
  | .next => ∃ σ' H', Inv X pins σ' H' s' ∧ D.nx σ' H'
  | .brk => ∃ σ' H', Inv X pins σ' H' s' ∧ D.bk σ' H'
  | .cont => ∃ σ' H', Inv X pins σ' H' s' ∧ D.ct σ' H'
  | .ret u => ∃ v σ' H', Inv X pins σ' H' s' ∧ RelV v u ∧ D.rt v H'
def PE (X : Cx) (e : Expr) (t : TE) : Prop :=
  ∀ (pins : List (Addr × Obj)) (s : Shared) (σ : St) (H : Hp) (Q : VK), Inv X pins σ H s → t σ H Q → wpAny (model X.prog X.w) X.A (eval e X.env) (EP X pins σ Q) X.xe s
def PT (X : Cx) (e : Expr) (t : TT) : Prop :=
  ∀ (pins : List (Addr × Obj)) (s : Shared) (σ : St) (H : Hp) (Q : Bool → Hp → Prop), Inv X pins σ H s → t σ H Q → wpAny (model X.prog X.w) X.A (isTrue e X.env (eval e X.env)) (TP X pins σ Q) X.xe s
def PW (X : Cx) (e : Expr) (t : TT) : Prop :=
  ∀ (whole : Sem Value) (pins : List (Addr × Obj)) (s : Shared) (σ : St) (H : Hp) (Q : Bool → Hp → Prop), Inv X pins σ H s → t σ H Q → wpAny (model X.prog X.w) X.A (isTrue e X.env whole) (TP X pins σ Q) X.xe s
theorem PW.pt {X : Cx} {e : Expr} {t : TT} (h : PW X e t) : PT X e t := h _
def PA (X : Cx) (es : List Expr) (t : TA) : Prop :=
  ∀ (pos : Pos) (pins : List (Addr × Obj)) (s : Shared) (σ : St) (H : Hp) (Q : List V → Hp → Prop), Inv X pins σ H s → t σ H Q → wpAny (model X.prog X.w) X.A (spliced (backTo pos (starEach es X.env))) (AP X pins σ Q) X.xe s
def PS (X : Cx) (st : Stmt) (t : TS) : Prop :=
  ∀ (pins : List (Addr × Obj)) (s : Shared) (σ : St) (H : Hp) (D : Ends), Inv X pins σ H s → t D σ H → wpAny (model X.prog X.w) X.A (exec st X.env) (SP X pins D) X.xe s
def PSs (X : Cx) (st : List Stmt) (t : TS) : Prop :=
  ∀ (pins : List (Addr × Obj)) (s : Shared) (σ : St) (H : Hp) (D : Ends), Inv X pins σ H s → t D σ H → wpAny (model X.prog X.w) X.A (execs st X.env) (SP X pins D) X.xe s
theorem thn {α : Type} {t : Sem α} {Q Q' : α → Shared → Prop} {M : Model} {A : Around} {E : Value → Shared → Prop} {s : Shared} (h : wpAny M A t Q E s) (hQ : ∀ a s, Q a s → Q' a s) : wpAny M A t Q' E s := wpAny_mono h hQ fun _ _ x => x
end L2
namespace L2
open PySem PySem.Spec PyProof.Rows
section
variable {X : Cx}
def tVar (i : Nat) : TE := fun σ H Q => ∃ v, σ[i]? = some (some v) ∧ Q v H
def tC (v : V) : TE := fun _ H Q => Q v H
theorem pe_var {i : Nat} {x : Str} {pos : Pos} (hN : X.N[i]? = some x) (hv : Vis X.env.scope x) (hd : (x == ("__debug__" : Str)) = false := by decide) (hcd : (x == ("__classdict__" : Str)) = false := by decide) : PE X (.Name x pos) (tVar i) := by
  intro pins s σ H Q I h
  obtain ⟨v, e, h⟩ := h
  obtain ⟨m, hn, hl⟩ := I.loc
  obtain ⟨u, r, l⟩ := hl i x v hN e hv
  have fin : EP X pins σ Q u s := ⟨v, H, I, r, h⟩
  rcases l with ⟨hk, hm⟩ | ⟨hk, c, hc, hcell⟩
  · exact wpAny_Name (wpAny_loadName_local I.ok.kind hk hn hm fin) hd
  · rcases hk with hk | hk
    · exact wpAny_Name (wpAny_loadName_cell I.ok.kind hk hc hcell fin) hd
    · exact wpAny_Name (wpAny_loadName_free I.ok.kind hk hc hcell fin hcd) hd
theorem pe_int {i j pos} : PE X (.Constant (.int i) j pos) (tC (.int i)) := fun _ _ _ H _ I h => wpAny_Constant_int ⟨.int i, H, I.tok _, ⟨_, rfl⟩, h⟩
theorem pe_bl {b j pos} : PE X (.Constant (.bool b) j pos) (tC (.bl b)) := fun _ _ _ H _ I h => Constant_bool ⟨.bl b, H, I, rfl, h⟩
theorem pe_non {j pos} : PE X (.Constant .none j pos) (tC .non) := fun _ _ _ H _ I h => Constant_none ⟨.non, H, I, rfl, h⟩
def Gl (X : Cx) (x : Str) : Prop := X.env.kindOf x = some .globalImplicit
theorem ld_glob {E : Value → Shared → Prop} {pins : List (Addr × Obj)} {s : Shared} {σ : St} {H : Hp} {x : Str} {u : Value} {pos : Pos} {Q : Value → Shared → Prop} (I : Inv X pins σ H s) (hg : Gl X x) (hm : X.mg x = some u) (h : Q u s)
    (hd : (x == ("__debug__" : Str)) = false := by decide) : wpAny (model X.prog X.w) X.A (eval (.Name x pos) X.env) Q E s :=
  Calls.Name_function_global I.ok.kind hg (Calls.loadGlobal_global (by rw [I.ok.glob]; exact I.mod.glob.keeps I.bk) hm h) hd
theorem ld_blt {E : Value → Shared → Prop} {pins : List (Addr × Obj)} {s : Shared} {σ : St} {H : Hp} {x : Str} {u : Value} {pos : Pos} {Q : Value → Shared → Prop} (I : Inv X pins σ H s) (hg : Gl X x) (hm : X.mg x = none) (hv : bootBuiltins x = some u) (h : Q u s)
    (hn : x ≠ "__name__" := by decide) (hd : (x == ("__debug__" : Str)) = false := by decide) : wpAny (model X.prog X.w) X.A (eval (.Name x pos) X.env) Q E s := by
  obtain ⟨mb, h1, h2⟩ := I.mod.blt
  exact Calls.Name_function_global I.ok.kind hg (Calls.loadGlobal_builtin (by rw [I.ok.glob]; exact I.mod.glob.keeps I.bk) hm (by rw [I.ok.blt]; exact h1.keeps I.bk) ((h2 x hn).trans hv) h) hd
theorem pe_glob {x : Str} {v : V} {u : Value} {pos : Pos} (hg : Gl X x) (hm : X.mg x = some u) (r : RelV v u) (hd : (x == ("__debug__" : Str)) = false := by decide) : PE X (.Name x pos) (tC v) :=
  fun _ _ _ H _ I h => ld_glob I hg hm ⟨v, H, I, r, h⟩ hd
variable {a b : Expr} {ta tb : TE} {pos : Pos}
def PC (X : Cx) (op : CmpOp) (a b : Expr) (t : TE) : Prop :=
  ∀ (pins : List (Addr × Obj)) (s : Shared) (σ : St) (H : Hp) (Q : VK), Inv X pins σ H s → t σ H Q →
    wpAny (model X.prog X.w) X.A (eval a X.env) (fun v s₁ => wpAny (model X.prog X.w) X.A (eval b X.env) (fun u s₂ => wpAny (model X.prog X.w) X.A (compareOp op v u) (EP X pins σ Q) X.xe s₂) X.xe s₁) X.xe s
theorem nobehind (b : Expr) {op : CmpOp} (h : op ≠ .In) (h2 : op ≠ .NotIn) : behindInMarks op b = false := by
  have e1 : (op == CmpOp.In) = false := by cases op <;> first | rfl | exact absurd rfl h
  have e2 : (op == CmpOp.NotIn) = false := by cases op <;> first | rfl | exact absurd rfl h2
  cases b <;> simp [behindInMarks, e1, e2]
def tIsN (ta : TE) : TE := fun σ H Q => ta σ H fun x H1 => Q (.bl (decide (x = .non))) H1
def tNotN (ta : TE) : TE := fun σ H Q => ta σ H fun x H1 => Q (.bl (!decide (x = .non))) H1
theorem RelV.none_iff {x : V} {v : Value} (r : RelV x v) : (v == Value.none) = decide (x = .non) := by
  cases x with
  | non => cases r; rfl
  | bl _ => cases r; rfl
  | int _ => obtain ⟨t, rfl⟩ := r; rfl
  | str _ => obtain ⟨t, rfl⟩ := r; rfl
  | byt _ => obtain ⟨t, rfl⟩ := r; rfl
  | flt _ => obtain ⟨t, rfl⟩ := r; rfl
  | ref _ => cases r; rfl
  | ty _ => cases r; rfl
theorem pc_isN {j pos'} (ha : PE X a ta) : PC X .Is a (.Constant .none j pos') (tIsN ta) := by
  intro pins s σ H Q I h
  refine thn (ha pins s σ H _ I h) fun v s1 ⟨x, H1, I1, r1, q1⟩ => ?_
  exact Constant_none (is_none_gen ⟨.bl _, H1, I1, by rw [r1.none_iff]; rfl, q1⟩)
theorem pc_notN {j pos'} (ha : PE X a ta) : PC X .IsNot a (.Constant .none j pos') (tNotN ta) := by
  intro pins s σ H Q I h
  refine thn (ha pins s σ H _ I h) fun v s1 ⟨x, H1, I1, r1, q1⟩ => ?_
  exact Constant_none (isnot_none_gen ⟨.bl _, H1, I1, by rw [r1.none_iff]; rfl, q1⟩)
def tB (t : TE) : TT := fun σ H Q => t σ H fun x H1 => ∃ c, x = .bl c ∧ Q c H1
theorem pt_cmp {op : CmpOp} {t : TE} (h : PC X op a b t) (h1 : behindInMarks op b = false := by first | exact nobehind _ (by decide) (by decide) | rfl) : PT X (.Compare a [op] [b] pos) (tB t) := by
  intro pins s σ H Q I hw
  refine wpAny_isTrue_Compare1 (thn (h pins s σ H _ I hw) fun v s1 h1 => thn h1 fun u s2 h2 => thn h2 fun c s3 ⟨x, H1, I1, r1, q1⟩ => ?_) h1
  obtain ⟨d, rfl, q⟩ := q1
  cases r1
  exact wpAny_truthy_bool ⟨H1, I1, q⟩
theorem pt_val {e : Expr} {t : TE} (h : PE X e t) (he : ∀ whole, isTrue e X.env whole = (do let v ← whole; standAt e.pos; holding [v] (truthy v)) := by intro _; rfl) : PT X e (tB t) := by
  intro pins s σ H Q I hw
  refine isTrue_plain (thn (h pins s σ H _ I hw) fun v s1 ⟨x, H1, I1, r1, q1⟩ => ?_) (he _)
  obtain ⟨d, rfl, q⟩ := q1
  cases r1
  exact wpAny_truthy_bool ⟨H1, I1, q⟩
variable {tA tB' : TT} {rest : List Expr}
def tAnd (t u : TT) : TT := fun σ H Q => t σ H fun c H1 => if c = true then u σ H1 Q else Q false H1
def tOr (t u : TT) : TT := fun σ H Q => t σ H fun c H1 => if c = true then Q true H1 else u σ H1 Q
def tNot (t : TT) : TT := fun σ H Q => t σ H fun c H1 => Q (!c) H1
theorem pw_and1 (ha : PT X a tA) : PW X (.BoolOp .And [a] pos) tA := by
  intro wh pins s σ H Q I h
  refine isTrue_and (thn (ha pins s σ H Q I h) fun c s1 e => ?_)
  cases c with
  | true => exact isTrue_and_nil e
  | false => exact e
theorem pw_or1 (ha : PT X a tA) : PW X (.BoolOp .Or [a] pos) tA := by
  intro wh pins s σ H Q I h
  refine isTrue_or (thn (ha pins s σ H Q I h) fun c s1 e => ?_)
  cases c with
  | false => exact isTrue_or_nil e
  | true => exact e
theorem pw_and (ha : PT X a tA) (hb : PW X (.BoolOp .And (b :: rest) pos) tB') : PW X (.BoolOp .And (a :: b :: rest) pos) (tAnd tA tB') := by
  intro wh pins s σ H Q I h
  refine isTrue_and (thn (ha pins s σ H _ I h) fun c s1 ⟨H1, I1, q1⟩ => ?_)
  cases c with
  | true => exact hb wh pins s1 σ H1 Q I1 q1
  | false => exact ⟨H1, I1, q1⟩
theorem pw_or (ha : PT X a tA) (hb : PW X (.BoolOp .Or (b :: rest) pos) tB') : PW X (.BoolOp .Or (a :: b :: rest) pos) (tOr tA tB') := by
  intro wh pins s σ H Q I h
  refine isTrue_or (thn (ha pins s σ H _ I h) fun c s1 ⟨H1, I1, q1⟩ => ?_)
  cases c with
  | true => exact ⟨H1, I1, q1⟩
  | false => exact hb wh pins s1 σ H1 Q I1 q1
theorem pt_not (ha : PT X a tA) : PT X (.UnaryOp .Not a pos) (tNot tA) := by
  intro pins s σ H Q I h
  exact isTrue_not (ha pins s σ H (fun c H1 => Q (!c) H1) I h)
def tAndV (ta tb : TE) : TE := fun σ H Q => ta σ H fun x H1 => ∃ c, x = .bl c ∧ if c = true then tb σ H1 Q else Q (.bl false) H1
def tOrV (ta tb : TE) : TE := fun σ H Q => ta σ H fun x H1 => ∃ c, x = .bl c ∧ if c = true then Q (.bl true) H1 else tb σ H1 Q
def tNotV (ta : TE) : TE := fun σ H Q => ta σ H fun x H1 => ∃ c, x = .bl c ∧ Q (.bl (!c)) H1
theorem pe_one {op} {t : TE} (h : PE X a t) : PE X (.BoolOp op [a] pos) t := fun pins s σ H Q I hw => BoolOp_one (h pins s σ H Q I hw)
theorem pe_and (ha : PE X a ta) (hb : PE X (.BoolOp .And (b :: rest) pos) tb) : PE X (.BoolOp .And (a :: b :: rest) pos) (tAndV ta tb) := by
  intro pins s σ H Q I h
  refine BoolOp_and (thn (ha pins s σ H _ I h) fun v s1 ⟨x, H1, I1, r1, q1⟩ => ?_)
  obtain ⟨c, rfl, q1⟩ := q1
  cases r1
  refine wpAny_truthy_bool ?_
  cases c with
  | true => exact hb pins s1 σ H1 Q I1 q1
  | false => exact ⟨.bl false, H1, I1, rfl, q1⟩
theorem pe_or (ha : PE X a ta) (hb : PE X (.BoolOp .Or (b :: rest) pos) tb) : PE X (.BoolOp .Or (a :: b :: rest) pos) (tOrV ta tb) := by
  intro pins s σ H Q I h
  refine BoolOp_or (thn (ha pins s σ H _ I h) fun v s1 ⟨x, H1, I1, r1, q1⟩ => ?_)
  obtain ⟨c, rfl, q1⟩ := q1
  cases r1
  refine wpAny_truthy_bool ?_
  cases c with
  | false => exact hb pins s1 σ H1 Q I1 q1
  | true => exact ⟨.bl true, H1, I1, rfl, q1⟩
theorem pe_not (ha : PE X a ta) : PE X (.UnaryOp .Not a pos) (tNotV ta) := by
  intro pins s σ H Q I h
  refine UnaryOp_ (thn (ha pins s σ H _ I h) fun v s1 ⟨x, H1, I1, r1, q1⟩ => ?_)
  obtain ⟨c, rfl, q1⟩ := q1
  cases r1
  exact not_of (wpAny_truthy_bool ⟨.bl (!c), H1, I1, rfl, q1⟩)
def tIf (t : TT) (ta tb : TE) : TE := fun σ H Q => t σ H fun c H1 => if c = true then ta σ H1 Q else tb σ H1 Q
theorem pe_ifExp {c : Expr} (hc : PT X c tA) (ha : PE X a ta) (hb : PE X b tb) : PE X (.IfExp c a b pos) (tIf tA ta tb) := by
  intro pins s σ H Q I h
  refine wpAny_IfExp (thn (hc pins s σ H _ I h) fun d s1 ⟨H1, I1, q1⟩ => ?_)
  cases d with
  | true => exact ha pins s1 σ H1 Q I1 q1
  | false => exact hb pins s1 σ H1 Q I1 q1
end
end L2
namespace L2
open PySem PySem.Spec PyProof.Rows
def SqL (K : PySem.W.Frag) (H : Hp) (a : Addr) (xs : List V) : Prop :=
  Rd H a (.lst xs) ∨
    ∃ (o : Obj) (its : Array Value) (n : Nat), K.lookup a = some o ∧ o.cls = .type "list" ∧ o.dict = none ∧ o.data = .seq its n ∧ its.size ≤ sizeLine ∧ Vals xs its.toList
def SqT (K : PySem.W.Frag) (H : Hp) (a : Addr) (xs : List V) : Prop :=
  Rd H a (.tup xs) ∨
    ∃ (o : Obj) (its : Array Value) (n : Nat), K.lookup a = some o ∧ o.cls = .type "tuple" ∧ o.data = .seq its n ∧ its.size ≤ sizeLine ∧ Vals xs its.toList
def absV : Value → Option V
  | .none => some .non
  | .bool b => some (.bl b)
  | .int i _ => some (.int i)
  | .str x _ => some (.str x)
  | .bytes b _ => some (.byt b)
  | .float b _ => some (.flt b)
  | .ref a => some (.ref a)
  | .type n => some (.ty n)
  | _ => none
theorem RelV.abs {x : V} {u : Value} (r : RelV x u) : absV u = some x := by
  cases x with
  | non => cases r; rfl
  | bl _ => cases r; rfl
  | int _ => obtain ⟨t, rfl⟩ := r; rfl
  | str _ => obtain ⟨t, rfl⟩ := r; rfl
  | byt _ => obtain ⟨t, rfl⟩ := r; rfl
  | flt _ => obtain ⟨t, rfl⟩ := r; rfl
  | ref _ => cases r; rfl
  | ty _ => cases r; rfl
theorem RelV.inj {x y : V} {u : Value} (r : RelV x u) (q : RelV y u) : x = y := Option.some.inj (r.abs.symm.trans q.abs)
theorem Vals.inj : ∀ {xs ys : List V} {us : List Value}, Vals xs us → Vals ys us → xs = ys
  | _, _, _, .nil, .nil => rfl
  | _, _, _, .cons r t, .cons r' t' => by rw [r.inj r', Vals.inj t t']
section
variable {X : Cx} {pins : List (Addr × Obj)} {σ : St} {H : Hp} {s : Shared} {a : Addr} {xs ys : List V}
theorem SqL.of {K : PySem.W.Frag} (h : H a = some (.lst xs)) : SqL K H a xs := .inl (.inl h)
theorem SqT.of {K : PySem.W.Frag} (h : H a = some (.tup xs)) : SqT K H a xs := .inl (.inl h)
theorem Inv.list (I : Inv X pins σ H s) (h : SqL X.K H a xs) : ∃ its : List Value, Vals xs its ∧ PlainL s.heap a its.toArray ∧ xs.length ≤ sizeLine := by
  rcases h with h | ⟨o, its, n, hk, hc, hd, hs, hz, r⟩
  · obtain ⟨z, its, n, r, e⟩ := h.ok I.hok
    exact ⟨its, r, ⟨_, n, e, rfl, rfl, rfl⟩, z⟩
  · refine ⟨its.toList, r, ⟨o, n, I.kIn a o hk, hc, hd, by simpa using hs⟩, ?_⟩
    have e := r.length
    simp only [Array.length_toList] at e
    omega
theorem Inv.tuple (I : Inv X pins σ H s) (h : SqT X.K H a xs) : ∃ its : List Value, Vals xs its ∧ IsTup s.heap a its.toArray ∧ xs.length ≤ sizeLine := by
  rcases h with h | ⟨o, its, n, hk, hc, hs, hz, r⟩
  · obtain ⟨z, its, r, p⟩ := h.ok I.hok
    exact ⟨its, r, p, z⟩
  · refine ⟨its.toList, r, ⟨o, I.kIn a o hk, hc, n, by simpa using hs⟩, ?_⟩
    have e := r.length
    simp only [Array.length_toList] at e
    omega
theorem Inv.list_inj (I : Inv X pins σ H s) (h : SqL X.K H a xs) (h' : SqL X.K H a ys) : xs = ys := by
  obtain ⟨its, r, ⟨o, n, e, _, _, d⟩, _⟩ := I.list h
  obtain ⟨its', r', ⟨o', n', e', _, _, d'⟩, _⟩ := I.list h'
  rw [e] at e'; cases e'
  rw [d] at d'
  injection d' with d1 _
  have : its = its' := by simpa using congrArg Array.toList d1
  subst this
  exact r.inj r'
end
abbrev Cx.wish (X : Cx) (E : Value → Shared → Prop) : Cx := { X with xe := E }
abbrev Cx.nox (X : Cx) : Cx := X.wish fun _ _ => False
theorem Cx.Ok.wish {X : Cx} (ok : X.Ok) (E : Value → Shared → Prop) : (X.wish E).Ok :=
  ⟨ok.mod, ok.kind, ok.glob, ok.blt, ok.above, ok.inj, ok.has, ok.cab, ok.hd, ok.frames, ok.stk, ok.exf, ok.bs, ok.bsz, ok.noex, ok.exfs, ok.funs, ok.frf⟩
theorem Cx.Ok.unwish {X : Cx} {E : Value → Shared → Prop} (ok : (X.wish E).Ok) : X.Ok :=
  ⟨ok.mod, ok.kind, ok.glob, ok.blt, ok.above, ok.inj, ok.has, ok.cab, ok.hd, ok.frames, ok.stk, ok.exf, ok.bs, ok.bsz, ok.noex, ok.exfs, ok.funs, ok.frf⟩
section
variable {X : Cx} {pins : List (Addr × Obj)} {σ : St} {H : Hp} {s : Shared} {E : Value → Shared → Prop}
theorem Inv.wish (I : Inv X pins σ H s) (E : Value → Shared → Prop) : Inv (X.wish E) pins σ H s := ⟨I.ok.wish E, I.os, I.bare, I.base, I.loc, I.cell, I.free, I.freeC, I.pin, I.hok, I.len⟩
theorem Inv.unwish (I : Inv (X.wish E) pins σ H s) : Inv X pins σ H s := ⟨I.ok.unwish, I.os, I.bare, I.base, I.loc, I.cell, I.free, I.freeC, I.pin, I.hok, I.len⟩
theorem SP.unwish {D : Ends} {f : Flow} {s' : Shared} (h : SP (X.wish E) pins D f s') : SP X pins D f s' := by
  cases f with
  | next => obtain ⟨σ', H', I, q⟩ := h; exact ⟨σ', H', I.unwish, q⟩
  | brk => obtain ⟨σ', H', I, q⟩ := h; exact ⟨σ', H', I.unwish, q⟩
  | cont => obtain ⟨σ', H', I, q⟩ := h; exact ⟨σ', H', I.unwish, q⟩
  | ret u => obtain ⟨v, σ', H', I, r, q⟩ := h; exact ⟨v, σ', H', I.unwish, r, q⟩
theorem PSs.nox {st : List Stmt} {t : TS} (h : PSs X.nox st t) : PSs X st t := fun pins s σ H D I hw =>
  wpAny_mono (h pins s σ H D (I.wish _) hw) (fun _ _ q => q.unwish) fun _ _ z => False.elim z
end
section
variable {X : Cx} {st : Stmt} {rest : List Stmt} {t u : TS} {e : Expr} {te : TE} {pos : Pos}
def tNext : TS := fun D σ H => D.nx σ H
def tSeq (t u : TS) : TS := fun D σ H => t { D with nx := u D } σ H
theorem pss_nil : PSs X [] tNext := fun _ _ σ H _ I h => wpAny_execs_nil ⟨σ, H, I, h⟩
theorem pss_cons (h1 : PS X st t) (h2 : PSs X rest u) : PSs X (st :: rest) (tSeq t u) := by
  intro pins s σ H D I h
  refine wpAny_execs_cons (thn (h1 pins s σ H { D with nx := u D } I h) fun f s1 q => ?_)
  cases f with
  | next =>
    obtain ⟨σ', H', I', q⟩ := q
    exact h2 pins s1 σ' H' D I' q
  | ret v => exact q
  | brk => exact q
  | cont => exact q
theorem pss_one (h1 : PS X st t) : PSs X [st] t := by
  intro pins s σ H D I h
  refine wpAny_execs_cons (thn (h1 pins s σ H D I h) fun f s1 q => ?_)
  cases f with
  | next => exact wpAny_execs_nil q
  | ret v => exact q
  | brk => exact q
  | cont => exact q
theorem Inv.quiet {pins : List (Addr × Obj)} {σ : St} {H : Hp} {s : Shared} (I : Inv X pins σ H s) : interactive X.env = false := by simp [interactive, I.ok.kind]
def tDrop (te : TE) : TS := fun D σ H => te σ H fun _ H1 => D.nx σ H1
theorem ps_expr (he : PE X e te) (hs : swapsWith e none pos.line X.env = pure false := by rfl) : PS X (.Expr e pos) (tDrop te) := by
  intro pins s σ H D I h
  exact wpAny_Expr_any (thn (he pins s σ H _ I h) fun v s1 ⟨x, H1, I1, r1, q1⟩ => ⟨σ, H1, I1, q1⟩) I.quiet hs
def tRet (te : TE) : TS := fun D σ H => te σ H D.rt
theorem ps_ret (he : PE X e te) : PS X (.Return (some e) pos) (tRet te) := by
  intro pins s σ H D I h
  exact wpAny_Return_some (thn (he pins s σ H _ I h) fun v s1 ⟨x, H1, I1, r1, q1⟩ => ⟨x, σ, H1, I1, r1, q1⟩)
def tIfS (c : TT) (t u : TS) : TS := fun D σ H => c σ H fun b H1 => if b = true then t D σ H1 else u D σ H1
theorem ps_if {c : Expr} {a b : List Stmt} {tc : TT} (hc : PT X c tc) (ha : PSs X a t) (hb : PSs X b u) : PS X (.If c a b pos) (tIfS tc t u) := by
  intro pins s σ H D I h
  refine wpAny_If (thn (hc pins s σ H _ I h) fun d s1 ⟨H1, I1, q1⟩ => ?_)
  cases d with
  | true => exact ha pins s1 σ H1 D I1 q1
  | false => exact hb pins s1 σ H1 D I1 q1
end
abbrev TG := V → St → Hp → (St → Hp → Prop) → Prop
abbrev TGs := List V → St → Hp → (St → Hp → Prop) → Prop
def PG (X : Cx) (target : Expr) (t : TG) : Prop :=
  ∀ (pins : List (Addr × Obj)) (s : Shared) (σ : St) (H : Hp) (v : V) (u : Value) (Q : St → Hp → Prop), Inv X pins σ H s → RelV v u → t v σ H Q →
    wpAny (model X.prog X.w) X.A (assign target X.env u) (fun _ s' => ∃ σ' H', Inv X pins σ' H' s' ∧ Q σ' H') X.xe s
def PGs (X : Cx) (ts : List Expr) (t : TGs) : Prop :=
  ∀ (pins : List (Addr × Obj)) (s : Shared) (σ : St) (H : Hp) (vs : List V) (us : List Value) (Q : St → Hp → Prop), Inv X pins σ H s → Vals vs us → t vs σ H Q →
    wpAny (model X.prog X.w) X.A (assignInOrder ((assignEach ts X.env).map (·.2)) us) (fun _ s' => ∃ σ' H', Inv X pins σ' H' s' ∧ Q σ' H') X.xe s
abbrev TSet := V → V → V → Hp → (Hp → Prop) → Prop
def PSet (X : Cx) (t : TSet) : Prop :=
  ∀ (pins : List (Addr × Obj)) (s : Shared) (σ : St) (H : Hp) (o i v : V) (ov iv u : Value) (Q : Hp → Prop), Inv X pins σ H s → RelV o ov → RelV i iv → RelV v u → t o i v H Q →
    wpAny (model X.prog X.w) X.A (setItem ov iv u) (fun _ s' => ∃ H', Inv X pins σ H' s' ∧ Q H') X.xe s
abbrev TIp := V → V → Hp → VK → Prop
def PIp (X : Cx) (op : Operator) (t : TIp) : Prop :=
  ∀ (pins : List (Addr × Obj)) (s : Shared) (σ : St) (H : Hp) (x y : V) (v u : Value) (Q : VK), Inv X pins σ H s → RelV x v → RelV y u → t x y H Q →
    wpAny (model X.prog X.w) X.A (inplaceOp op v u) (EP X pins σ Q) X.xe s
section
variable {X : Cx} {pos : Pos}
def gName (i : Nat) : TG := fun v σ H Q => Q (σ.set i (some v)) H
theorem pg_name {i : Nat} {x : Str} (hN : X.N.Nodup) (hi : X.N[i]? = some x) (hx : Loc X.env.scope x) (hf : X.fn x = true ∨ X.env.scope.names.lookup x = some .local := by first | exact .inl rfl | exact .inr rfl | assumption) : PG X (.Name x pos) (gName i) := by
  intro pins s σ H v u Q I r h
  exact wpAny_assign_Name (store_ok I hN hi hx r (fun s' I' => ⟨_, H, I', h⟩) hf)
def gNil : TGs := fun vs σ H Q => vs = [] ∧ Q σ H
def gCons (t : TG) (u : TGs) : TGs := fun vs σ H Q => ∃ v r, vs = v :: r ∧ t v σ H fun σ' H' => u r σ' H' Q
theorem pgs_nil : PGs X [] gNil := by
  intro pins s σ H vs us Q I r h
  obtain ⟨e, h⟩ := h
  subst e
  cases r
  exact assignInOrder_nil ⟨σ, H, I, h⟩
theorem pgs_cons {e : Expr} {es : List Expr} {t : TG} {u : TGs} (h1 : PG X e t) (h2 : PGs X es u)
    (hs : (assignEach (e :: es) X.env).map (·.2) = assign e X.env :: (assignEach es X.env).map (·.2) := by rfl) : PGs X (e :: es) (gCons t u) := by
  intro pins s σ H vs us Q I r h
  obtain ⟨v, vr, e1, h⟩ := h
  subst e1
  cases r with
  | cons r rr =>
    rw [hs]
    refine assignInOrder_cons (thn (h1 pins s σ H _ _ _ I r h) fun _ s1 ⟨σ1, H1, I1, q1⟩ => ?_)
    exact h2 pins s1 σ1 H1 _ _ Q I1 rr q1
def gTup (K : PySem.W.Frag) (n : Nat) (t : TGs) : TG := fun v σ H Q => ∃ a xs, v = .ref a ∧ SqT K H a xs ∧ xs.length = n ∧ t xs σ H Q
theorem pg_tup {es : List Expr} {k : Nat} {t : TGs} {n : Nat} (hc : X.calm = true) (h : PGs X es t)
    (hn : (assignEach es X.env).length = n := by rfl) (hst : (assignEach es X.env).findIdx? (·.1) = none := by rfl) : PG X (.Tuple es k pos) (gTup X.K n t) := by
  intro pins s σ H v u Q I r hw
  obtain ⟨a, xs, e1, hq, hl, hw⟩ := hw
  subst e1
  cases r
  obtain ⟨its, rv, ht, hz⟩ := I.tuple hq
  refine assign_Tuple_tuple (I.ok.hd hc) ht (by simp [hn, ← hl, rv.length]) hst fun h' hx => ?_
  have I1 : Inv X pins σ H { s with heap := h' } := I.kept (t' := s.toks) fun b o e => hx b o (Nat.ne_of_lt (Heap.lt_size e)) e
  exact h pins _ σ H xs _ Q I1 (by simpa using rv) hw
def gSub (to ti : TE) (t : TSet) : TG := fun v σ H Q => to σ H fun o H1 => ti σ H1 fun i H2 => t o i v H2 fun H3 => Q σ H3
theorem pg_sub {o i : Expr} {to ti : TE} {t : TSet} (ho : PE X o to) (hi : PE X i ti) (hs : PSet X t)
    (ha : ∀ v, assign (.Subscript o i pos) X.env v = (do
      let ov ← holding [v] (eval o X.env)
      let iv ← holding [v, ov] (eval i X.env)
      standAt pos
      holding [v, ov, iv] (setItem ov iv v)
      release [v, ov, iv] []) := by intro _; rfl) : PG X (.Subscript o i pos) (gSub to ti t) := by
  intro pins s σ H v u Q I r h
  rw [ha]
  refine wpAny_bind (wpAny_holding (thn (ho pins s σ H _ I h) fun ov s1 ⟨x, H1, I1, r1, q1⟩ => ?_))
  refine wpAny_bind (wpAny_holding (thn (hi pins s1 σ H1 _ I1 q1) fun iv s2 ⟨y, H2, I2, r2, q2⟩ => ?_))
  refine wpAny_bind (wpAny_standAt (wpAny_bind (wpAny_holding (thn (hs pins s2 σ H2 x y v ov iv u _ I2 r1 r2 r q2) fun _ s3 ⟨H3, I3, q3⟩ => ?_))))
  exact wpAny_release ⟨σ, H3, I3, q3⟩
def tAsg (te : TE) (g : TG) : TS := fun D σ H => te σ H fun x H1 => g x σ H1 D.nx
theorem ps_asg {tg e : Expr} {te : TE} {g : TG} (he : PE X e te) (hg : PG X tg g) (hs : swapsWithSole [tg] e pos.line X.env = pure false := by rfl) (hw : swappedStores [tg] e X.env = pure none := by rfl)
    (h1 : (assignEach [tg] X.env).map (·.2) = [assign tg X.env] := by rfl) : PS X (.Assign [tg] e pos) (tAsg te g) := by
  intro pins s σ H D I h
  refine wpAny_Assign_stores (thn (he pins s σ H _ I h) fun v s1 ⟨x, H1, I1, r1, q1⟩ => ?_) hs hw
  rw [h1]
  exact thn (hg pins s1 σ H1 x v _ I1 r1 q1) fun _ s2 q => q
theorem ps_set {i : Nat} {x : Str} {e : Expr} {te : TE} {pos' : Pos} (hN : X.N.Nodup) (hi : X.N[i]? = some x) (hx : Loc X.env.scope x) (he : PE X e te) (hs : swapsWith e (some (.Name x pos')) pos.line X.env = pure false := by rfl) (hf : X.fn x = true ∨ X.env.scope.names.lookup x = some .local := by first | exact .inl rfl | exact .inr rfl | assumption) :
    PS X (.Assign [.Name x pos'] e pos) (tAsg te (gName i)) := by
  intro pins s σ H D I h
  refine wpAny_Assign_Name (thn (he pins s σ H _ I h) fun v s1 ⟨y, H1, I1, r1, q1⟩ => ?_) hs
  exact store_ok I1 hN hi hx r1 (fun s2 I2 => ⟨_, H1, I2, q1⟩) hf
def tAug (i : Nat) (te : TE) (ti : TIp) : TS := fun D σ H => ∃ x, σ[i]? = some (some x) ∧ te σ H fun y H1 => ti x y H1 fun z H2 => D.nx (σ.set i (some z)) H2
theorem ps_aug {i : Nat} {x : Str} {e : Expr} {te : TE} {op : Operator} {ti : TIp} {pos' : Pos} (hN : X.N.Nodup) (hi : X.N[i]? = some x) (hx : Loc X.env.scope x) (he : PE X e te) (ho : PIp X op ti) (hf : X.fn x = true ∨ X.env.scope.names.lookup x = some .local := by first | exact .inl rfl | exact .inr rfl | assumption) :
    PS X (.AugAssign (.Name x pos') op e pos) (tAug i te ti) := by
  intro pins s σ H D I h
  obtain ⟨v, e1, h⟩ := h
  obtain ⟨m, hn, hl⟩ := I.loc
  have vis : Vis X.env.scope x := by rcases hx with k | k; exact .inl k; exact .inr (.inl k)
  obtain ⟨u, r, l⟩ := hl i x v hi e1 vis
  refine wpAny_AugAssign_Name ?_
  have go : wpAny (model X.prog X.w) X.A (eval e X.env) (fun w s₂ => wpAny (model X.prog X.w) X.A (inplaceOp op u w) (fun r s₃ => wpAny (model X.prog X.w) X.A (storeName X.env x r) (fun _ => SP X pins D .next) X.xe s₃) X.xe s₂) X.xe s := by
    refine thn (he pins s σ H _ I h) fun w s1 ⟨y, H1, I1, r1, q1⟩ => ?_
    refine thn (ho pins s1 σ H1 v y u w _ I1 r r1 q1) fun z s2 ⟨zv, H2, I2, r2, q2⟩ => ?_
    exact store_ok I2 hN hi hx r2 (fun s3 I3 => ⟨_, H2, I3, q2⟩) hf
  rcases l with ⟨hk, hm⟩ | ⟨hk, c, hc, hcell⟩
  · exact wpAny_loadName_local I.ok.kind hk hn hm go
  · rcases hk with hk | hk
    · exact wpAny_loadName_cell I.ok.kind hk hc hcell go
    · rcases hx with k | k
      · have : X.env.scope.names.lookup x = some .free := hk
        rw [k] at this; cases this
      · have : X.env.scope.names.lookup x = some .free := hk
        rw [k] at this; cases this
def ipI (f : Int → Int → Int) : TIp := fun x y H Q => ∃ i j, x = .int i ∧ y = .int j ∧ Q (.int (f i j)) H
theorem ip_add : PIp X .Add (ipI fun i j => i + j) := by
  intro pins s σ H x y v u Q I r1 r2 h
  obtain ⟨i, j, e1, e2, q⟩ := h
  subst e1; subst e2
  obtain ⟨t, rfl⟩ := r1
  obtain ⟨t', rfl⟩ := r2
  exact iadd_int ⟨.int _, H, I.tok _, ⟨_, rfl⟩, q⟩
theorem ip_sub : PIp X .Sub (ipI fun i j => i - j) := by
  intro pins s σ H x y v u Q I r1 r2 h
  obtain ⟨i, j, e1, e2, q⟩ := h
  subst e1; subst e2
  obtain ⟨t, rfl⟩ := r1
  obtain ⟨t', rfl⟩ := r2
  exact isub_int ⟨.int _, H, I.tok _, ⟨_, rfl⟩, q⟩
end
section
variable {X : Cx} {pos : Pos}
def tWhile (c : TT) (tb : TS) : TS := fun D σ H => ∃ W : Nat → St → Hp → Prop, (∃ m, W m σ H) ∧ ∀ m σ H, W m σ H →
  c σ H fun b H1 => if b = true then ∃ N : St → Hp → Prop, (∀ σ' H', N σ' H' → ∃ m', m' < m ∧ W m' σ' H') ∧ tb { D with nx := N, ct := N, bk := D.nx } σ H1 else D.nx σ H1
theorem ps_while {c : Expr} {body : List Stmt} {tc : TT} {tb : TS} (hp : PassesOwn (model X.prog X.w) X.A X.env X.xe) (hc : PT X c tc) (hb : PSs X body tb) : PS X (.While c body [] pos) (tWhile tc tb) := by
  intro pins s σ H D I h
  obtain ⟨W, ⟨m0, w0⟩, turn⟩ := h
  refine wpAny_While (codeAny_whileLoop (fun n s' => ∃ σ' H', Inv X pins σ' H' s' ∧ W n σ' H') ?_ m0 ⟨σ, H, I, w0⟩)
  rintro n s1 ⟨σ1, H1, I1, w1⟩
  refine wpAny_passesOwn hp (thn (hc pins s1 σ1 H1 _ I1 (turn n σ1 H1 w1)) fun b s2 ⟨H2, I2, q2⟩ => ?_)
  cases b with
  | true =>
    obtain ⟨N, hN, q2⟩ := q2
    rw [if_pos rfl]
    refine wpAny_passesOwn hp (thn (hb pins s2 σ1 H2 _ I2 q2) fun f s3 q3 => ?_)
    cases f with
    | next =>
      obtain ⟨σ3, H3, I3, n3⟩ := q3
      obtain ⟨m', hm, w3⟩ := hN σ3 H3 n3
      exact ⟨m', hm, σ3, H3, I3, w3⟩
    | cont =>
      obtain ⟨σ3, H3, I3, n3⟩ := q3
      obtain ⟨m', hm, w3⟩ := hN σ3 H3 n3
      exact ⟨m', hm, σ3, H3, I3, w3⟩
    | brk => exact q3
    | ret v => exact q3
  | false =>
    rw [if_neg Bool.false_ne_true]
    exact wpAny_execs_nil ⟨σ1, H2, I2, q2⟩
end
structure It where
  go : Nat → Hp → Prop
  yld : Nat → Hp → V → Hp → Prop
  stop : Nat → Hp → Prop
def FpOk (X : Cx) (pins : List (Addr × Obj)) (H : Hp) (b : Addr) : Prop :=
  H b = none ∧ b ≠ X.env.locals ∧ b ∉ X.fs ∧ (b ∈ X.ex ∨ X.s_0.heap.objs.size ≤ b) ∧ (∀ x c, X.env.cells.lookup x = some c → c ≠ b) ∧ ∀ p ∈ X.pn ++ pins, p.1 ≠ b
theorem Inv.fpOk {X : Cx} {pins : List (Addr × Obj)} {σ : St} {H H' : Hp} {s : Shared} {b : Addr} (I : Inv X pins σ H s) (hb : s.heap.objs.size ≤ b) (hn : H' b = none) : FpOk X pins H' b := by
  refine ⟨hn, Nat.ne_of_gt (Nat.lt_of_lt_of_le I.lt hb), I.nofs hb, .inr (Nat.le_trans I.sz hb), fun x c e z => ?_, fun p hp z => ?_⟩
  · obtain ⟨v, q⟩ := I.cell x c e
    exact absurd (Nat.lt_of_lt_of_le q.lt (by rw [z]; exact hb)) (Nat.lt_irrefl _)
  · exact absurd (Nat.lt_of_lt_of_le (Heap.lt_size (I.pin p hp).1) (by rw [z]; exact hb)) (Nat.lt_irrefl _)
structure Turn (P : Program) (w : World) (K : PySem.W.Frag) (tg : Expr) (J : It) (fp : List Addr) (it : Addr) (tn : Nat → Heap → Prop) : Prop where
  mem : it ∈ fp
  obj : ∀ i h, tn i h → ∀ b ∈ fp, ∃ o, h.get? b = some o ∧ ∀ v, o.data ≠ .cell v
  keep : ∀ i h h', tn i h → (∀ b ∈ fp, ∀ o, h.get? b = some o → h'.get? b = some o) → tn i h'
  item : ∀ (X : Cx), X.prog = P → X.w = w → X.K = K → X.calm = true → ∀ (i : Nat) (pins : List (Addr × Obj)) (s : Shared) (σ : St) (H : Hp) (E : Value → Shared → Prop), Inv X pins σ H s → (∀ b ∈ fp, FpOk X pins H b) → tn i s.heap → J.go i H →
    wpAny (model P w) X.A (pyNext (.ref it)) (fun r s1 => ∃ u, r = some u ∧
      wpAny (model P w) X.A (letOwnedTupleGo tg (.ref it) u) (fun _ s2 => ∃ x H', Inv X pins σ H' s2 ∧ RelV x u ∧ J.yld i H x H' ∧ tn (i + 1) s2.heap ∧ ∀ b ∈ fp, H' b = none) E s1) E s
  done : ∀ (X : Cx), X.prog = P → X.w = w → X.K = K → X.calm = true → ∀ (i : Nat) (pins : List (Addr × Obj)) (s : Shared) (σ : St) (H : Hp) (E : Value → Shared → Prop), Inv X pins σ H s → (∀ b ∈ fp, FpOk X pins H b) → tn i s.heap → J.stop i H →
    wpAny (model P w) X.A (pyNext (.ref it)) (fun r s1 => r = none ∧ Inv X pins σ H s1) E s
  self : ∀ (A : Around) (i : Nat) (s : Shared) (Q : Value → Shared → Prop) (E : Value → Shared → Prop), tn i s.heap → Q (.ref it) s → wpAny (model P w) A (pyIter (.ref it)) Q E s
abbrev TI := St → Hp → (It → Hp → Prop) → Prop
def PIE (X : Cx) (pins : List (Addr × Obj)) (σ : St) (tg : Expr) (R : It → Hp → Prop) (itv : Value) (s2 : Shared) : Prop :=
  ∃ (it : Addr) (fp : List Addr) (tn : Nat → Heap → Prop) (J : It) (H' : Hp), itv = .ref it ∧ Inv X pins σ H' s2 ∧ Turn X.prog X.w X.K tg J fp it tn ∧ tn 0 s2.heap ∧ (∀ b ∈ fp, FpOk X pins H' b) ∧ R J H'
def PI (X : Cx) (tg iter : Expr) (wi : TI) : Prop :=
  ∀ (pins : List (Addr × Obj)) (s : Shared) (σ : St) (H : Hp) (R : It → Hp → Prop), Inv X pins σ H s → wi σ H R →
    wpAny (model X.prog X.w) X.A (eval iter X.env) (fun v s1 => wpAny (model X.prog X.w) X.A (pyIter v) (PIE X pins σ tg R) X.xe s1) X.xe s
theorem go_of {M : Model} {A : Around} {E : Value → Shared → Prop} {s : Shared} {tg : Expr} {it : Addr} {u : Value} {o : Obj} {n : String} {vs : Array Value} {Q : Unit → Shared → Prop} (ho : s.heap.get? it = some o) (hc : o.cls = .type n) (hd : o.data = .fields vs)
    (hn : ["enumerate", "zip", "dict_itemiterator", "dict_reverseitemiterator", "odict_iterator", "itertools.zip_longest", "itertools.pairwise"].contains n = false) (hQ : Q () s) : wpAny M A (letOwnedTupleGo tg (.ref it) u) Q E s := by
  unfold letOwnedTupleGo
  cases tg <;> first
    | exact wpAny_pure hQ
    | (cases u <;> first
        | exact wpAny_pure hQ
        | (refine wpAny_bind (wpAny_load ho ?_)
           rw [hc, hd]
           show wpAny M A (if (["enumerate", "zip", "dict_itemiterator", "dict_reverseitemiterator", "odict_iterator", "itertools.zip_longest", "itertools.pairwise"].contains n && vs[0]? == some (rawInt _)) = true then _ else _) Q E s
           rw [if_neg (by intro h; rw [hn, Bool.false_and] at h; cases h)]
           exact wpAny_pure hQ))
def Itl (K : PySem.W.Frag) (a : Addr) : It :=
  ⟨fun i H => ∃ xs x, SqL K H a xs ∧ xs[i]? = some x, fun i H x H' => H' = H ∧ ∀ xs, SqL K H a xs → xs[i]? = some x, fun i H => ∃ xs, SqL K H a xs ∧ xs.length ≤ i⟩
theorem turn_list {P : Program} {w : World} {K : PySem.W.Frag} {tg : Expr} (a it : Addr) : Turn P w K tg (Itl K a) [it] it (fun i h => h.IsListIter it a i) where
  mem := by simp
  obj := fun i h st b hb => by
    have e : b = it := by simpa using hb
    subst e
    obtain ⟨o, e, c, d⟩ := st
    exact ⟨o, e, fun v z => by rw [d] at z; cases z⟩
  keep := fun i h h' st k => st.at fun o e => k it (by simp) o e
  item := by
    intro X hP hw hK hc i pins s σ H E I hf st hg
    subst hP hw hK
    obtain ⟨xs, x, hq, hx⟩ := hg
    obtain ⟨its, rv, p, hz⟩ := I.list hq
    obtain ⟨u, hu, ru⟩ := rv.get hx
    obtain ⟨f0, f1, f2, f3, f4, f5⟩ := hf it (by simp)
    refine wpAny_pyNext_list_item st p.isList (x := u) (by simpa using hu) fun h' st' sb => ?_
    have I1 : Inv X pins σ H { s with heap := h' } := I.turned (t' := s.toks) (fun b o hb e => (sb.2 b hb).trans e) f0 f1 f3 f4 f5
    obtain ⟨o, e, c, d⟩ := id st'
    exact ⟨u, rfl, go_of (s := { s with heap := h' }) e c d (by decide) ⟨x, H, I1, ru, ⟨rfl, fun ys hy => by rw [I.list_inj hy hq]; exact hx⟩, st', fun b hb => (hf b hb).1⟩⟩
  done := by
    intro X hP hw hK hc i pins s σ H E I hf st hg
    subst hP hw hK
    obtain ⟨xs, hq, hx⟩ := hg
    obtain ⟨its, rv, p, hz⟩ := I.list hq
    obtain ⟨f0, f1, f2, f3, f4, f5⟩ := hf it (by simp)
    have hl := rv.length
    exact wpAny_pyNext_list_end (I.ok.hd hc) st p.isList (by simp; omega) fun h' eb => ⟨rfl, I.turned (t' := s.toks) (fun b o hb e => eb b o hb e) f0 f1 f3 f4 f5⟩
  self := fun _ _ _ _ _ st h => wpAny_pyIter_listiter st h
end L2
namespace L2
open PySem PySem.Spec PyProof.Rows
section
variable {X : Cx} {tg : Expr}
def iList (K : PySem.W.Frag) (tl : TE) : TI := fun σ H R => tl σ H fun x H1 => ∃ a, x = .ref a ∧ (∃ xs, SqL K H1 a xs) ∧ R (Itl K a) H1
theorem pi_list {l : Expr} {tl : TE} (hl : PE X l tl) : PI X tg l (iList X.K tl) := by
  intro pins s σ H R I h
  refine thn (hl pins s σ H _ I h) fun v s1 ⟨x, H1, I1, r1, q1⟩ => ?_
  obtain ⟨a, e, ⟨xs, hq⟩, q⟩ := q1
  subst e
  cases r1
  obtain ⟨its, rv, p, hz⟩ := I1.list hq
  refine wpAny_pyIter_list p.isList ?_
  refine ⟨s1.heap.objs.size, [s1.heap.objs.size], _, _, H1, rfl, I1.kept (t' := s1.toks) fun b o e => Heap.get?_push_of_some _ e, turn_list a _, ⟨_, Heap.get?_push_size _ rfl, rfl, rfl⟩, fun b hb => ?_, q⟩
  have e : b = s1.heap.objs.size := by simpa using hb
  subst e
  exact I1.fpOk (Nat.le_refl _) (I1.hok.fresh (Nat.le_refl _))
def tFor (wi : TI) (g : TG) (tb : TS) : TS := fun D σ H => wi σ H fun J H1 => ∃ W : Nat → Nat → St → Hp → Prop, (∃ m, W 0 m σ H1) ∧ ∀ i m σ H, W i m σ H →
  (J.stop i H ∧ D.nx σ H) ∨ (J.go i H ∧ ∃ N : St → Hp → Prop, (∀ σ' H', N σ' H' → ∃ m', m' < m ∧ W (i + 1) m' σ' H') ∧ ∀ x H', J.yld i H x H' → g x σ H' fun σ2 H2 => tb { D with nx := N, ct := N, bk := D.nx } σ2 H2)
def pinsAt (fp : List Addr) (h : Heap) : List (Addr × Obj) := fp.filterMap fun b => (h.get? b).map fun o => (b, o)
theorem mem_pinsAt {fp : List Addr} {h : Heap} {b : Addr} {o : Obj} (hb : b ∈ fp) (e : h.get? b = some o) : (b, o) ∈ pinsAt fp h := List.mem_filterMap.mpr ⟨b, hb, by rw [e]; rfl⟩
theorem of_pinsAt {fp : List Addr} {h : Heap} {p : Addr × Obj} (hp : p ∈ pinsAt fp h) : p.1 ∈ fp ∧ h.get? p.1 = some p.2 := by
  obtain ⟨b, hb, e⟩ := List.mem_filterMap.mp hp
  cases q : h.get? b with
  | none => rw [q] at e; cases e
  | some o =>
    rw [q] at e
    have e' : (b, o) = p := Option.some.inj e
    subst e'
    exact ⟨hb, q⟩
theorem Inv.pinned {pins : List (Addr × Obj)} {σ : St} {H : Hp} {s : Shared} {fp : List Addr} (I : Inv X pins σ H s) (hf : ∀ b ∈ fp, FpOk X pins H b) (ho : ∀ b ∈ fp, ∃ o, s.heap.get? b = some o ∧ ∀ v, o.data ≠ .cell v) : Inv X (pins ++ pinsAt fp s.heap) σ H s :=
  I.pins_of fun p hp => (List.mem_append.mp hp).elim (fun z => I.pin p (List.mem_append_right _ z)) fun z => by
    obtain ⟨hb, e⟩ := of_pinsAt z
    obtain ⟨f0, f1, f2, _⟩ := hf p.1 hb
    obtain ⟨o, e', d⟩ := ho p.1 hb
    rw [e] at e'; cases e'
    exact ⟨e, f0, f1, f2, d⟩
theorem Inv.unpinned {pins pl : List (Addr × Obj)} {σ : St} {H : Hp} {s : Shared} (I : Inv X (pins ++ pl) σ H s) : Inv X pins σ H s := I.pins_of fun p hp => I.pin p (List.mem_append_right _ (List.mem_append_left _ hp))
theorem ps_for {iter : Expr} {body : List Stmt} {wi : TI} {g : TG} {tb : TS} {pos : Pos} (hp : PassesOwn (model X.prog X.w) X.A X.env X.xe) (hc : X.calm = true) (hi : PI X tg iter wi) (hg : PG X tg g) (hb : PSs X body tb)
    (hs : ∀ x, foldedSetIterable iter X.env x = pure x := by intro _; rfl) : PS X (.For tg iter body [] pos) (tFor wi g tb) := by
  intro pins s σ H D I h
  refine wpAny_For (thn (hi pins s σ H _ I h) fun v s1 h1 => thn h1 fun itv s2 h2 => ?_) hs
  obtain ⟨it, fp, tn, J, H2, e, I2, T, st2, f2, W, ⟨m0, w0⟩, turn⟩ := h2
  subst e
  -- what stays true of the iterator's objects through the loop
  have stat : ∀ {H' : Hp}, (∀ b ∈ fp, H' b = none) → ∀ b ∈ fp, FpOk X pins H' b := fun hn b hb => ⟨hn b hb, (f2 b hb).2⟩
  refine codeAny_forLoop_any (fun n s' => ∃ i σ' H', Inv X pins σ' H' s' ∧ tn i s'.heap ∧ (∀ b ∈ fp, H' b = none) ∧ W i n σ' H') ?_ m0 ⟨0, σ, H2, I2, st2, fun b hb => (f2 b hb).1, w0⟩
  rintro n s3 ⟨i, σ3, H3, I3, st3, fr3, w3⟩
  rcases turn i n σ3 H3 w3 with ⟨stop, qn⟩ | ⟨go, N, hN, step⟩
  · refine wpAny_passesOwn hp (thn (T.done X rfl rfl rfl hc i pins s3 σ3 H3 X.xe I3 (stat fr3) st3 stop) fun r s4 ⟨hr, I4⟩ => ?_)
    subst hr
    exact wpAny_execs_nil ⟨σ3, H3, I4, qn⟩
  · refine wpAny_passesOwn hp (thn (T.item X rfl rfl rfl hc i pins s3 σ3 H3 X.xe I3 (stat fr3) st3 go) fun r s4 ⟨u, hr, h4⟩ => ?_)
    subst hr
    refine wpAny_passesOwn hp (thn h4 fun _ s5 ⟨x, H5, I5, r5, y5, st5, fr5⟩ => ?_)
    have I5' := I5.pinned (stat fr5) (T.obj _ _ st5)
    refine wpAny_passesOwn hp (thn (hg _ s5 σ3 H5 x u _ I5' r5 (step x H5 y5)) fun _ s6 ⟨σ6, H6, I6, q6⟩ => ?_)
    refine wpAny_passesOwn hp (thn (hb _ s6 σ6 H6 _ I6 q6) fun f s7 q7 => ?_)
    have again : ∀ {σ7 : St} {H7 : Hp}, Inv X (pins ++ pinsAt fp s5.heap) σ7 H7 s7 → N σ7 H7 → ∃ m, m < n ∧ ∃ i σ' H', Inv X pins σ' H' s7 ∧ tn i s7.heap ∧ (∀ b ∈ fp, H' b = none) ∧ W i m σ' H' := fun {σ7 H7} I7 n7 => by
      obtain ⟨m', hm, w7⟩ := hN σ7 H7 n7
      refine ⟨m', hm, i + 1, σ7, H7, I7.unpinned, T.keep _ _ _ st5 fun b hb o e => (I7.pin (b, o) (List.mem_append_right _ (List.mem_append_right _ (mem_pinsAt hb e)))).1, fun b hb => ?_, w7⟩
      obtain ⟨o, e, d⟩ := T.obj _ _ st5 b hb
      exact (I7.pin (b, o) (List.mem_append_right _ (List.mem_append_right _ (mem_pinsAt hb e)))).2.1
    cases f with
    | next => obtain ⟨σ7, H7, I7, n7⟩ := q7; exact again I7 n7
    | cont => obtain ⟨σ7, H7, I7, n7⟩ := q7; exact again I7 n7
    | brk => obtain ⟨σ7, H7, I7, q7⟩ := q7; exact ⟨σ7, H7, I7.unpinned, q7⟩
    | ret v => obtain ⟨x7, σ7, H7, I7, r7, q7⟩ := q7; exact ⟨x7, σ7, H7, I7.unpinned, r7, q7⟩
end
theorem for_list {K : PySem.W.Frag} {a : Addr} {xs : List V} {g : TG} {tb : TS} {D : Ends} {σ : St} {H : Hp} (Pv : Nat → St → Hp → Prop) (h0 : Pv 0 σ H) (hl : ∀ i σ H, i ≤ xs.length → Pv i σ H → SqL K H a xs)
    (hs : ∀ i x σ H, xs[i]? = some x → Pv i σ H → g x σ H fun σ2 H2 => tb { D with nx := Pv (i + 1), ct := Pv (i + 1), bk := D.nx } σ2 H2) (hd : ∀ σ H, Pv xs.length σ H → D.nx σ H) :
    ∃ W : Nat → Nat → St → Hp → Prop, (∃ m, W 0 m σ H) ∧ ∀ i m σ H, W i m σ H →
      ((Itl K a).stop i H ∧ D.nx σ H) ∨ ((Itl K a).go i H ∧ ∃ N : St → Hp → Prop, (∀ σ' H', N σ' H' → ∃ m', m' < m ∧ W (i + 1) m' σ' H') ∧ ∀ x H', (Itl K a).yld i H x H' → g x σ H' fun σ2 H2 => tb { D with nx := N, ct := N, bk := D.nx } σ2 H2) := by
  refine ⟨fun i m σ H => m = xs.length - i ∧ i ≤ xs.length ∧ Pv i σ H, ⟨xs.length, by simp, Nat.zero_le _, h0⟩, ?_⟩
  rintro i m σ H ⟨rfl, hi, p⟩
  have q := hl i σ H hi p
  by_cases hlt : i < xs.length
  · refine .inr ⟨⟨xs, xs[i], q, by simp [hlt]⟩, Pv (i + 1), fun σ' H' p' => ⟨xs.length - (i + 1), by omega, rfl, hlt, p'⟩, fun x H' y => ?_⟩
    obtain ⟨e, y⟩ := y
    subst e
    exact hs i x σ _ (y xs q) p
  · have e : i = xs.length := by omega
    subst e
    exact .inl ⟨⟨xs, q, Nat.le_refl _⟩, hd σ H p⟩
theorem while_by {c : TT} {tb : TS} {D : Ends} {σ : St} {H : Hp} (Pv : St → Hp → Prop) (μ : St → Hp → Nat) (h0 : Pv σ H)
    (hs : ∀ σ H, Pv σ H → c σ H fun b H1 => if b = true then tb { D with nx := fun σ' H' => Pv σ' H' ∧ μ σ' H' < μ σ H, ct := fun σ' H' => Pv σ' H' ∧ μ σ' H' < μ σ H, bk := D.nx } σ H1 else D.nx σ H1)
    (mono : ∀ σ H Q Q', (∀ b H1, Q b H1 → Q' b H1) → c σ H Q → c σ H Q') : tWhile c tb D σ H := by
  refine ⟨fun m σ H => m = μ σ H ∧ Pv σ H, ⟨_, rfl, h0⟩, ?_⟩
  rintro m σ H ⟨rfl, p⟩
  refine mono σ H _ _ (fun b H1 q => ?_) (hs σ H p)
  cases b with
  | true => exact ⟨_, fun σ' H' ⟨p', l⟩ => ⟨_, l, rfl, p'⟩, q⟩
  | false => exact q
end L2
namespace L2
open PySem PySem.Spec PyProof.Rows
abbrev R2 := V → V → Hp → VK → Prop
def OpR (X : Cx) (f : Value → Value → Sem Value) (r : R2) : Prop :=
  ∀ (pins : List (Addr × Obj)) (s : Shared) (σ : St) (H : Hp) (x y : V) (v u : Value) (Q : VK), Inv X pins σ H s → RelV x v → RelV y u → r x y H Q →
    wpAny (model X.prog X.w) X.A (f v u) (EP X pins σ Q) X.xe s
def UnR (X : Cx) (f : Value → Sem Value) (r : V → Hp → VK → Prop) : Prop :=
  ∀ (pins : List (Addr × Obj)) (s : Shared) (σ : St) (H : Hp) (x : V) (v : Value) (Q : VK), Inv X pins σ H s → RelV x v → r x H Q →
    wpAny (model X.prog X.w) X.A (f v) (EP X pins σ Q) X.xe s
def CallR (X : Cx) (f : Value) (r : List V → Hp → VK → Prop) : Prop :=
  ∀ (pins : List (Addr × Obj)) (s : Shared) (σ : St) (H : Hp) (xs : List V) (us : List Value) (Q : VK), Inv X pins σ H s → Vals xs us → r xs H Q →
    wpAny (model X.prog X.w) X.A (call f us) (EP X pins σ Q) X.xe s
def tOp (r : R2) (ta tb : TE) : TE := fun σ H Q => ta σ H fun x H1 => tb σ H1 fun y H2 => r x y H2 Q
def tUn (r : V → Hp → VK → Prop) (ta : TE) : TE := fun σ H Q => ta σ H fun x H1 => r x H1 Q
def rI (C : Int → Int → Prop) (g : Int → Int → V) : R2 := fun x y H Q => ∃ i j, x = .int i ∧ y = .int j ∧ C i j ∧ Q (g i j) H
def rI0 (g : Int → Int → V) : R2 := fun x y H Q => ∃ i j, x = .int i ∧ y = .int j ∧ Q (g i j) H
def rU (g : Int → V) : V → Hp → VK → Prop := fun x H Q => ∃ i, x = .int i ∧ Q (g i) H
section
variable {X : Cx} {a b c : Expr} {ta tb tc : TE} {pos : Pos}
theorem binT (ha : PE X a ta) (hb : PE X b tb) {pins : List (Addr × Obj)} {s : Shared} {σ : St} {H : Hp} {R : V → V → Hp → Prop} (I : Inv X pins σ H s)
    (h : ta σ H fun x H1 => tb σ H1 fun y H2 => R x y H2) {Q : Value → Shared → Prop} {f : Value → Value → Sem Value}
    (hf : ∀ v u s2 x y H2, Inv X pins σ H2 s2 → RelV x v → RelV y u → R x y H2 → wpAny (model X.prog X.w) X.A (f v u) Q X.xe s2) :
    wpAny (model X.prog X.w) X.A (eval a X.env) (fun v s₁ => wpAny (model X.prog X.w) X.A (eval b X.env) (fun u s₂ => wpAny (model X.prog X.w) X.A (f v u) Q X.xe s₂) X.xe s₁) X.xe s := by
  refine thn (ha pins s σ H _ I h) fun v s1 ⟨x, H1, I1, r1, q1⟩ => ?_
  refine thn (hb pins s1 σ H1 _ I1 q1) fun u s2 ⟨y, H2, I2, r2, q2⟩ => ?_
  exact hf v u s2 x y H2 I2 r1 r2 q2
theorem pe_op {op : Operator} {r : R2} (ho : OpR X (binaryOp op) r) (ha : PE X a ta) (hb : PE X b tb) : PE X (.BinOp a op b pos) (tOp r ta tb) := by
  intro pins s σ H Q I h
  exact wpAny_BinOp (binT ha hb I h fun v u s2 x y H2 I2 rx ry q => ho pins s2 σ H2 x y v u Q I2 rx ry q)
theorem pe_un {op : UnaryOp} {r : V → Hp → VK → Prop} (ho : UnR X (unaryOp op) r) (ha : PE X a ta) : PE X (.UnaryOp op a pos) (tUn r ta) := by
  intro pins s σ H Q I h
  exact UnaryOp_ (thn (ha pins s σ H _ I h) fun v s1 ⟨x, H1, I1, r1, q1⟩ => ho pins s1 σ H1 x v Q I1 r1 q1)
theorem opI {f : Value → Value → Sem Value} {C : Int → Int → Prop} {g : Int → Int → Int}
    (rule : ∀ (i j : Int) (t u : Tok) (s : Shared) (Q : Value → Shared → Prop) (E : Value → Shared → Prop), C i j → Q (.int (g i j) s.toks) { s with toks := s.toks + 1 } → wpAny (model X.prog X.w) X.A (f (.int i t) (.int j u)) Q E s) :
    OpR X f (rI C fun i j => .int (g i j)) := by
  intro pins s σ H x y v u Q I rx ry h
  obtain ⟨i, j, rfl, rfl, hc, q⟩ := h
  obtain ⟨t, rfl⟩ := rx
  obtain ⟨t', rfl⟩ := ry
  exact rule i j t t' s _ _ hc ⟨.int (g i j), H, I.tok _, ⟨_, rfl⟩, q⟩
theorem opI0 {f : Value → Value → Sem Value} {g : Int → Int → Int}
    (rule : ∀ (i j : Int) (t u : Tok) (s : Shared) (Q : Value → Shared → Prop) (E : Value → Shared → Prop), Q (.int (g i j) s.toks) { s with toks := s.toks + 1 } → wpAny (model X.prog X.w) X.A (f (.int i t) (.int j u)) Q E s) :
    OpR X f (rI0 fun i j => .int (g i j)) := by
  intro pins s σ H x y v u Q I rx ry h
  obtain ⟨i, j, rfl, rfl, q⟩ := h
  obtain ⟨t, rfl⟩ := rx
  obtain ⟨t', rfl⟩ := ry
  exact rule i j t t' s _ _ ⟨.int (g i j), H, I.tok _, ⟨_, rfl⟩, q⟩
theorem opB0 {f : Value → Value → Sem Value} {g : Int → Int → Bool}
    (rule : ∀ (i j : Int) (t u : Tok) (s : Shared) (Q : Value → Shared → Prop) (E : Value → Shared → Prop), Q (.bool (g i j)) s → wpAny (model X.prog X.w) X.A (f (.int i t) (.int j u)) Q E s) :
    OpR X f (rI0 fun i j => .bl (g i j)) := by
  intro pins s σ H x y v u Q I rx ry h
  obtain ⟨i, j, rfl, rfl, q⟩ := h
  obtain ⟨t, rfl⟩ := rx
  obtain ⟨t', rfl⟩ := ry
  exact rule i j t t' s _ _ ⟨.bl (g i j), H, I, rfl, q⟩
def CMul (i j : Int) : Prop := (-(2 ^ 64) < i ∧ i < 2 ^ 64) ∨ (-(2 ^ 64) < j ∧ j < 2 ^ 64)
theorem CMul.ok {i j : Int} (h : CMul i j) : IntMulOk i j := by
  rcases h with ⟨h1, h2⟩ | ⟨h1, h2⟩
  · exact .of_left (intBits_le_64 h1 h2)
  · exact .of_right (intBits_le_64 h1 h2)
theorem op_add : OpR X (binaryOp .Add) (rI0 fun i j => .int (i + j)) := opI0 fun _ _ _ _ _ _ _ q => add_int q
theorem op_sub : OpR X (binaryOp .Sub) (rI0 fun i j => .int (i - j)) := opI0 fun _ _ _ _ _ _ _ q => sub_int q
theorem op_mul : OpR X (binaryOp .Mult) (rI CMul fun i j => .int (i * j)) := opI fun _ _ _ _ _ _ _ hc q => mul_int q hc.ok
theorem op_mod : OpR X (binaryOp .Mod) (rI (fun _ j => 0 < j) fun i j => .int (i % j)) := opI fun i j _ _ _ _ _ hc q => by
  have h1 : (0 : Int) < j := hc
  exact mod_int' (by omega) (by rw [Int.fmod_eq_emod_of_nonneg i (by omega)]; exact q)
theorem unI {f : Value → Sem Value} {g : Int → Int}
    (rule : ∀ (i : Int) (t : Tok) (s : Shared) (Q : Value → Shared → Prop) (E : Value → Shared → Prop), Q (.int (g i) s.toks) { s with toks := s.toks + 1 } → wpAny (model X.prog X.w) X.A (f (.int i t)) Q E s) :
    UnR X f (rU fun i => .int (g i)) := by
  intro pins s σ H x v Q I rx h
  obtain ⟨i, rfl, q⟩ := h
  obtain ⟨t, rfl⟩ := rx
  exact rule i t s _ _ ⟨.int (g i), H, I.tok _, ⟨_, rfl⟩, q⟩
theorem un_neg : UnR X (unaryOp .USub) (rU fun i => .int (-i)) := unI fun _ _ _ _ _ q => neg_int q
end
def scal : V → V → Bool
  | .non, .non => true | .non, .int _ => true | .int _, .non => true | .non, .bl _ => true | .bl _, .non => true | .non, .str _ => true | .str _, .non => true
  | .int _, .int _ => true | .bl _, .bl _ => true | .str _, .str _ => true | .byt _, .byt _ => true
  | .int _, .str _ => true | .str _, .int _ => true | .bl _, .str _ => true | .str _, .bl _ => true
  | _, _ => false
def rEq : R2 := fun x y H Q => scal x y = true ∧ Q (.bl (decide (x = y))) H
def rNe : R2 := fun x y H Q => scal x y = true ∧ Q (.bl (!decide (x = y))) H
theorem dec_int {i j : Int} : decide (V.int i = V.int j) = (i == j) := by
  rw [Bool.eq_iff_iff]
  simp
theorem dec_bl {i j : Bool} : decide (V.bl i = V.bl j) = (i == j) := by
  rw [Bool.eq_iff_iff]
  simp
theorem dec_str {i j : Str} : decide (V.str i = V.str j) = (i == j) := by
  rw [Bool.eq_iff_iff]
  simp
theorem dec_byt {i j : Array UInt8} : decide (V.byt i = V.byt j) = (i.toList == j.toList) := by
  rw [Bool.eq_iff_iff]
  cases i
  cases j
  simp
section
variable {X : Cx} {a b c : Expr} {ta tb tc : TE} {pos : Pos}
theorem fin_bl {pins : List (Addr × Obj)} {σ : St} {H : Hp} {s : Shared} {Q : VK} {k k' : Bool} (I : Inv X pins σ H s) (q : Q (.bl k) H) (e : k = k') : EP X pins σ Q (.bool k') s := by
  subst e
  exact ⟨.bl k, H, I, rfl, q⟩
theorem op_eq : OpR X (compareOp .Eq) rEq := by
  intro pins s σ H x y v u Q I rx ry h
  obtain ⟨hs, q⟩ := h
  cases x with
  | non =>
    cases rx
    cases y with
    | non => cases ry; exact PySem.EqNone.eq_none_none (fin_bl I q (by simp))
    | bl j => cases ry; exact PySem.EqNone.eq_none_bool (fin_bl I q (by simp))
    | int j => obtain ⟨t', rfl⟩ := ry; exact PySem.EqNone.eq_none_int (fin_bl I q (by simp))
    | str j => obtain ⟨t', rfl⟩ := ry; exact PySem.EqNone.eq_none_str (fin_bl I q (by simp))
    | _ => exact absurd (show false = true from hs) Bool.false_ne_true
  | bl i =>
    cases rx
    cases y with
    | non => cases ry; exact PySem.EqNone.eq_bool_none (fin_bl I q (by simp))
    | bl j => cases ry; exact eq_bool (fin_bl I q dec_bl)
    | str j => obtain ⟨t', rfl⟩ := ry; exact PySem.EqMixed.eq_bool_str (fin_bl I q (by simp))
    | _ => exact absurd (show false = true from hs) Bool.false_ne_true
  | int i =>
    obtain ⟨t, rfl⟩ := rx
    cases y with
    | non => cases ry; exact PySem.EqNone.eq_int_none (fin_bl I q (by simp))
    | int j => obtain ⟨t', rfl⟩ := ry; exact eq_int (fin_bl I q dec_int)
    | str j => obtain ⟨t', rfl⟩ := ry; exact PySem.EqMixed.eq_int_str (fin_bl I q (by simp))
    | _ => exact absurd (show false = true from hs) Bool.false_ne_true
  | str i =>
    obtain ⟨t, rfl⟩ := rx
    cases y with
    | non => cases ry; exact PySem.EqNone.eq_str_none (fin_bl I q (by simp))
    | bl j => cases ry; exact PySem.EqMixed.eq_str_bool (fin_bl I q (by simp))
    | int j => obtain ⟨t', rfl⟩ := ry; exact PySem.EqMixed.eq_str_int (fin_bl I q (by simp))
    | str j => obtain ⟨t', rfl⟩ := ry; exact eq_str (fin_bl I q dec_str)
    | _ => exact absurd (show false = true from hs) Bool.false_ne_true
  | byt i =>
    obtain ⟨t, rfl⟩ := rx
    cases y with
    | byt j => obtain ⟨t', rfl⟩ := ry; exact PySem.W.eq_bytes (fin_bl I q dec_byt)
    | _ => exact absurd (show false = true from hs) Bool.false_ne_true
  | _ => cases y <;> exact absurd (show false = true from hs) Bool.false_ne_true
theorem op_ne : OpR X (compareOp .NotEq) rNe := by
  intro pins s σ H x y v u Q I rx ry h
  obtain ⟨hs, q⟩ := h
  cases x with
  | non =>
    cases rx
    cases y with
    | non => cases ry; exact PySem.EqNone.ne_none_none (fin_bl I q (by simp))
    | bl j => cases ry; exact PySem.EqNone.ne_none_bool (fin_bl I q (by simp))
    | int j => obtain ⟨t', rfl⟩ := ry; exact PySem.EqNone.ne_none_int (fin_bl I q (by simp))
    | str j => obtain ⟨t', rfl⟩ := ry; exact PySem.EqNone.ne_none_str (fin_bl I q (by simp))
    | _ => exact absurd (show false = true from hs) Bool.false_ne_true
  | bl i =>
    cases rx
    cases y with
    | non => cases ry; exact PySem.EqNone.ne_bool_none (fin_bl I q (by simp))
    | bl j => cases ry; exact ne_bool (fin_bl I q (congrArg not dec_bl))
    | str j => obtain ⟨t', rfl⟩ := ry; exact PySem.EqMixed.ne_bool_str (fin_bl I q (by simp))
    | _ => exact absurd (show false = true from hs) Bool.false_ne_true
  | int i =>
    obtain ⟨t, rfl⟩ := rx
    cases y with
    | non => cases ry; exact PySem.EqNone.ne_int_none (fin_bl I q (by simp))
    | int j => obtain ⟨t', rfl⟩ := ry; exact ne_int (fin_bl I q (congrArg not dec_int))
    | str j => obtain ⟨t', rfl⟩ := ry; exact PySem.EqMixed.ne_int_str (fin_bl I q (by simp))
    | _ => exact absurd (show false = true from hs) Bool.false_ne_true
  | str i =>
    obtain ⟨t, rfl⟩ := rx
    cases y with
    | non => cases ry; exact PySem.EqNone.ne_str_none (fin_bl I q (by simp))
    | bl j => cases ry; exact PySem.EqMixed.ne_str_bool (fin_bl I q (by simp))
    | int j => obtain ⟨t', rfl⟩ := ry; exact PySem.EqMixed.ne_str_int (fin_bl I q (by simp))
    | str j => obtain ⟨t', rfl⟩ := ry; exact ne_str (fin_bl I q (congrArg not dec_str))
    | _ => exact absurd (show false = true from hs) Bool.false_ne_true
  | byt i =>
    obtain ⟨t, rfl⟩ := rx
    cases y with
    | byt j => obtain ⟨t', rfl⟩ := ry; exact PySem.W.ne_bytes (fin_bl I q (congrArg not dec_byt))
    | _ => exact absurd (show false = true from hs) Bool.false_ne_true
  | _ => cases y <;> exact absurd (show false = true from hs) Bool.false_ne_true
theorem op_lt : OpR X (compareOp .Lt) (rI0 fun i j => .bl (decide (i < j))) := opB0 fun _ _ _ _ _ _ _ q => lt_int q
theorem op_le : OpR X (compareOp .LtE) (rI0 fun i j => .bl (decide (i ≤ j))) := opB0 fun _ _ _ _ _ _ _ q => le_int q
theorem op_gt : OpR X (compareOp .Gt) (rI0 fun i j => .bl (decide (j < i))) := opB0 fun _ _ _ _ _ _ _ q => gt_int q
theorem op_ge : OpR X (compareOp .GtE) (rI0 fun i j => .bl (decide (j ≤ i))) := opB0 fun _ _ _ _ _ _ _ q => ge_int q
theorem nomark (b : Expr) {op : CmpOp} (h : op ≠ .In := by decide) (h2 : op ≠ .NotIn := by decide) : behindInMarks op b = false := by
  have e1 : (op == CmpOp.In) = false := by cases op <;> first | rfl | exact absurd rfl h
  have e2 : (op == CmpOp.NotIn) = false := by cases op <;> first | rfl | exact absurd rfl h2
  cases b <;> simp [behindInMarks, e1, e2]
theorem pe_cmpR {op : CmpOp} {r : R2} (ho : OpR X (compareOp op) r) (ha : PE X a ta) (hb : PE X b tb) (hm : behindInMarks op b = false) : PE X (.Compare a [op] [b] pos) (tOp r ta tb) := by
  intro pins s σ H Q I h
  exact wpAny_Compare1 (binT ha hb I h fun v u s2 x y H2 I2 rx ry q => ho pins s2 σ H2 x y v u Q I2 rx ry q) hm
def tTest (t : TE) : TT := fun σ H Q => t σ H fun x H' => ∃ k, x = .bl k ∧ Q k H'
theorem pt_cmpR {op : CmpOp} {r : R2} (ho : OpR X (compareOp op) r) (ha : PE X a ta) (hb : PE X b tb) (hm : behindInMarks op b = false) : PT X (.Compare a [op] [b] pos) (tTest (tOp r ta tb)) := by
  intro pins s σ H Q I h
  refine wpAny_isTrue_Compare1 (thn (ha pins s σ H _ I h) fun v s1 ⟨x, H1, I1, r1, q1⟩ => thn (hb pins s1 σ H1 _ I1 q1) fun u s2 ⟨y, H2, I2, r2, q2⟩ =>
    thn (ho pins s2 σ H2 x y v u _ I2 r1 r2 q2) fun c s3 ⟨z, H3, I3, r3, k, e, q3⟩ => ?_) hm
  subst e
  cases r3
  exact wpAny_truthy_bool ⟨H3, I3, q3⟩
def tChain (r r' : R2) (ta tb tc : TE) : TE := fun σ H Q => ta σ H fun x H1 => tb σ H1 fun y H2 => r x y H2 fun z H3 => ∃ k, z = .bl k ∧
  (if k = true then tc σ H3 fun w' H4 => r' y w' H4 Q else Q (.bl false) H3)
theorem pe_chain {op op' : CmpOp} {r r' : R2} (ho : OpR X (compareOp op) r) (ho' : OpR X (compareOp op') r') (ha : PE X a ta) (hb : PE X b tb) (hc : PE X c tc)
    (hm : lastMarks [op, op'] [b, c] = false := by with_unfolding_all rfl) : PE X (.Compare a [op, op'] [b, c] pos) (tChain r r' ta tb tc) := by
  intro pins s σ H Q I h
  refine Compare_chain (thn (ha pins s σ H _ I h) fun v s1 ⟨x, H1, I1, r1, q1⟩ => chain_link (thn (hb pins s1 σ H1 _ I1 q1) fun u s2 ⟨y, H2, I2, r2, q2⟩ =>
    thn (ho pins s2 σ H2 x y v u _ I2 r1 r2 q2) fun d s3 ⟨z, H3, I3, r3, k, e, q3⟩ => ?_)) hm
  subst e
  cases r3
  refine wpAny_truthy_bool ?_
  cases k with
  | false => exact ite_ff ⟨.bl false, H3, I3, rfl, q3⟩
  | true => exact ite_tt (chain_last (thn (hc pins s3 σ H3 _ I3 q3) fun w' s4 ⟨z', H4, I4, r4, q4⟩ => ho' pins s4 σ H4 y z' u w' Q I4 r2 r4 q4))
theorem line63 : (sizeLine : Nat) < 2 ^ 63 := by rw [sizeLine_eq]; decide
theorem vals1 {x : V} {us : List Value} (r : Vals [x] us) : ∃ u, us = [u] ∧ RelV x u := by
  cases r with
  | cons r1 r2 => cases r2; exact ⟨_, rfl, r1⟩
theorem vals2 {x y : V} {us : List Value} (r : Vals [x, y] us) : ∃ u w', us = [u, w'] ∧ RelV x u ∧ RelV y w' := by
  cases r with
  | cons r1 r2 =>
    cases r2 with
    | cons r3 r4 => cases r4; exact ⟨_, _, rfl, r1, r3⟩
theorem call_abs : CallR X (.builtin "abs") (fun xs H Q => ∃ i, xs = [.int i] ∧ Q (.int (if i < 0 then -i else i)) H) := by
  intro pins s σ H xs us Q I r h
  obtain ⟨i, rfl, q⟩ := h
  obtain ⟨u, rfl, t, rfl⟩ := vals1 r
  exact call_abs_int fun u tk => ⟨.int (if i < 0 then -i else i), H, I.tok _, ⟨_, rfl⟩, q⟩
theorem call_max2 (hc : X.calm = true) : CallR X (.builtin "max") (fun xs H Q => ∃ i j, xs = [.int i, .int j] ∧ Q (.int (if j > i then j else i)) H) := by
  intro pins s σ H xs us Q I r h
  obtain ⟨i, j, rfl, q⟩ := h
  obtain ⟨u, w', rfl, ⟨t, rfl⟩, ⟨t', rfl⟩⟩ := vals2 r
  refine max_two_ints (I.ok.hd hc) fun h' tk k => ⟨_, H, I.kept k, ?_, q⟩
  by_cases hj : j > i
  · rw [if_pos hj, if_pos hj]; exact ⟨_, rfl⟩
  · rw [if_neg hj, if_neg hj]; exact ⟨_, rfl⟩
end
end L2
namespace L2
open PySem PySem.Spec PyProof.Rows
structure ObjM (h : Heap) (x dx C : Addr) (mA : Str → Option Value) : Prop where
  obj : h.get? x = some (PySem.W.instObj C dx)
  ns : h.Ns1 dx mA
  ne : dx ≠ x
theorem lookIn_ns {h : Heap} {dx : Addr} {mA : Str → Option Value} (n : h.Ns1 dx mA) : ∃ od, h.get? dx = some od ∧ ∀ name, PySem.W.lookIn name od = some (mA name) := by
  obtain ⟨o, es, ep, ho, hd, hk, _, hm⟩ := n
  refine ⟨o, ho, fun name => ?_⟩
  have e := hm name
  unfold nsFind findBy at e
  rw [← Array.find?_toList] at e
  unfold PySem.W.lookIn
  rw [hd]
  dsimp only
  split
  · rename_i y q
    rw [q] at e
    exact congrArg some e
  · rename_i q
    rw [q] at e
    have a : es.toList.any (·.refKey) = false := by
      rw [List.any_eq_false]
      intro y hy
      obtain ⟨z, t, hkey⟩ := hk y (Array.mem_toList_iff.mp hy)
      simp [DictEntry.refKey, hkey]
    have a' : ¬ es.toList.any (·.refKey) = true := by rw [a]; exact Bool.false_ne_true
    rw [if_neg a']
    exact congrArg some e
theorem ObjM.look {h : Heap} {x dx C : Addr} {mA : Str → Option Value} (I : ObjM h x dx C mA) : ∃ od, PySem.W.InstAt h x (PySem.W.instObj C dx) C (some od) ∧ ∀ name, PySem.W.lookIn name od = some (mA name) :=
  let ⟨od, ho, hl⟩ := lookIn_ns I.ns
  ⟨od, ⟨I.obj, rfl, rfl, ho⟩, hl⟩
section
variable {prog : Program} {w : World} {A : Around} {E : Value → Shared → Prop} {s : Shared} {K : PySem.W.Frag} {x dx C f : Addr} {mA : Str → Option Value} {name : Str} {v : Value}
theorem get_map {expr : Bool} {Q : Value → Shared → Prop} (X : K.In s.heap) (I : ObjM s.heap x dx C mA) (hg : PySem.W.plainGet K C name = true) (hh : PySem.W.hasDictIn K C = true)
    (ha : PySem.W.findIn K (.ref C) name = some none) (hv : mA name = some v) (hv' : PySem.W.handedIn v = true) (h : Q v { s with toks := s.toks + 1 }) :
    wpAny (model prog w) A (getAttr (.ref x) name expr) Q E s := by
  obtain ⟨od, J, hl⟩ := I.look
  exact PySem.W.get_value X J (PySem.W.plainGet_of hg).1 (PySem.W.findObj_own hh ha rfl (by rw [hl, hv])) hv' h
theorem set_map {ns : List Str} {Q : Unit → Shared → Prop} (X : K.In s.heap) (I : ObjM s.heap x dx C mA)
    (hs : PySem.W.findIn K (.ref C) "__setattr__" = some (some (.builtin "object.__setattr__"))) (hp : PySem.W.plainOver K C = true) (ht : PySem.W.takerIn K C name = some none) (hh : PySem.W.hasDictIn K C = true)
    (hw : PySem.Within mA ns) (hsz : ns.length ≤ sizeLine)
    (h : ∀ h', ObjM h' x dx C (fun y => if y = name then some v else mA y) → Heap.SameBut dx s.heap h' → Q () { s with heap := h', toks := s.toks + 2 }) :
    wpAny (model prog w) A (setAttr (.ref x) name v) Q E s := by
  obtain ⟨od, J, hl⟩ := I.look
  refine PySem.W.set_plain X J hs (PySem.W.osa_open (s := { s with toks := s.toks + 1 }) (r := none) X J hp ht fun b => ?_)
  obtain ⟨cd, hc, hd'⟩ := PySem.W.any_some hh
  have hx : s.heap.get? x = some ⟨.ref C, some dx, .plain, #[]⟩ := I.obj
  refine wpAny_bind (wpAny_pure (wpAny_bind (wpAny_bind (wpAny_loadPart hx (wpAny_bind (PySem.W.Looks.here (s := { s with toks := s.toks + 1 }) (PySem.W.looks_clsIn X hc) ?_))))))
  rw [hd']
  refine wpAny_pure (a := some dx) (wpAny_bind (wpAny_pure (wpAny_bind ?_)))
  refine wpAny_nsSet1 (s := { s with toks := s.toks + 1 }) I.ns fun h' hn2 hs2 => ?_
  obtain ⟨oD, esD, epD, hoD, hdD, hcD⟩ := hn2.count (PySem.Within.cons name v hw)
  refine wpAny_bind (wpAny_lookBehind hoD (by rw [hdD]; exact pastItsLine_dict (Nat.le_trans hcD (by rw [List.length_cons]; omega))) ?_)
  exact wpAny_pure (h _ ⟨(hs2.2 _ (Ne.symm I.ne)).trans I.obj, hn2, I.ne⟩ hs2)
theorem make_map {R : Result → Shared → Prop} {vs : List Value} {kw : List (Str × Value)} (X : K.In s.heap) (hm : PySem.W.makesIn K C = true)
    (hi : PySem.W.findIn K (.ref C) "__init__" = some (some (.ref f))) (hf : PySem.W.typeIn K (.ref f) = some (.type "function"))
    (h : codeAny (model prog w) (A.under (.builtin "type.__call__" ⟨.ref C :: vs, kw⟩)) (.call (.ref f) ⟨.ref (s.heap.objs.size + 1) :: vs, kw⟩) (PySem.W.InitBack (s.heap.objs.size + 1) R)
      { s with heap := (s.heap.push PySem.W.emptyDict).push (PySem.W.instObj C s.heap.objs.size) }) :
    codeAny (model prog w) A (.call (.ref C) ⟨vs, kw⟩) R s := by
  obtain ⟨hh, g, d, t, os⟩ := s
  exact PySem.W.make_core (PySem.W.makes_of X hm) (PySem.W.looks_findIn X hi) (fun self => PySem.W.bind_fn X self hf) (.inl rfl) h
end
def putF (f : Str) (v : V) : List (Str × V) → List (Str × V)
  | [] => [(f, v)]
  | (g, x) :: r => if g = f then (g, v) :: r else (g, x) :: putF f v r
theorem lookup_putF (f g : Str) (v : V) : ∀ fs : List (Str × V), (putF f v fs).lookup g = if g = f then some v else fs.lookup g
  | [] => by
    show List.lookup g [(f, v)] = _
    by_cases h : g = f
    · have hb : (g == f) = true := beq_iff_eq.mpr h
      simp only [List.lookup, hb, if_pos h]
    · have hb : (g == f) = false := beq_eq_false_iff_ne.mpr h
      simp only [List.lookup, hb, if_neg h]
  | (k, x) :: r => by
    have ih := lookup_putF f g v r
    rw [show putF f v ((k, x) :: r) = (if k = f then (k, v) :: r else (k, x) :: putF f v r) from rfl]
    by_cases hk : k = f
    · rw [if_pos hk]
      by_cases h : g = k
      · have hb : (g == k) = true := beq_iff_eq.mpr h
        simp only [List.lookup, hb, if_pos (h.trans hk)]
      · have hb : (g == k) = false := beq_eq_false_iff_ne.mpr h
        simp only [List.lookup, hb, if_neg (fun e : g = f => h (e.trans hk.symm))]
    · rw [if_neg hk]
      by_cases h : g = k
      · have hb : (g == k) = true := beq_iff_eq.mpr h
        simp only [List.lookup, hb, if_neg (fun e : g = f => hk (h.symm.trans e))]
      · have hb : (g == k) = false := beq_eq_false_iff_ne.mpr h
        simp only [List.lookup, hb]
        exact ih
theorem keys_putF (f : Str) (v : V) : ∀ fs : List (Str × V), f ∈ (putF f v fs).map (·.1) ∧ ∀ g, g ∈ fs.map (·.1) → g ∈ (putF f v fs).map (·.1)
  | [] => ⟨by simp [putF], fun g h => by simp at h⟩
  | (k, x) :: r => by
    obtain ⟨i1, i2⟩ := keys_putF f v r
    rw [show putF f v ((k, x) :: r) = (if k = f then (k, v) :: r else (k, x) :: putF f v r) from rfl]
    by_cases hk : k = f
    · rw [if_pos hk]
      subst hk
      exact ⟨by simp, fun g h => by simpa using h⟩
    · rw [if_neg hk]
      refine ⟨?_, fun g h => ?_⟩
      · rw [List.map_cons]
        exact List.mem_cons_of_mem _ i1
      · rw [List.map_cons] at h ⊢
        rcases List.mem_cons.mp h with e | e
        · exact List.mem_cons.mpr (.inl e)
        · exact List.mem_cons_of_mem _ (i2 g e)
theorem length_putF (f : Str) (v : V) : ∀ fs : List (Str × V), (putF f v fs).length ≤ fs.length + 1
  | [] => by simp [putF]
  | (k, x) :: r => by
    have ih := length_putF f v r
    rw [show putF f v ((k, x) :: r) = (if k = f then (k, v) :: r else (k, x) :: putF f v r) from rfl]
    by_cases hk : k = f
    · rw [if_pos hk, List.length_cons, List.length_cons]; omega
    · rw [if_neg hk, List.length_cons, List.length_cons]; omega
theorem RelO.some_of {v : V} {o : Option Value} (r : RelO (some v) o) : ∃ u, o = some u ∧ RelV v u := by
  cases o with
  | none => exact (show False from r).elim
  | some u => exact ⟨u, rfl, r⟩
theorem handed_of {v : V} {u : Value} (r : RelV v u) : PySem.W.handedIn u = true := by
  cases v with
  | non => cases (show u = Value.none from r); rfl
  | bl b => cases (show u = Value.bool b from r); rfl
  | int i => obtain ⟨t, e⟩ := (show ∃ t, u = Value.int i t from r); cases e; rfl
  | str x => obtain ⟨t, e⟩ := (show ∃ t, u = Value.str x t from r); cases e; rfl
  | byt b => obtain ⟨t, e⟩ := (show ∃ t, u = Value.bytes b t from r); cases e; rfl
  | flt b => obtain ⟨t, e⟩ := (show ∃ t, u = Value.float b t from r); cases e; rfl
  | ref a => cases (show u = Value.ref a from r); rfl
  | ty n => cases (show u = Value.type n from r); rfl
section
variable {P : Program} {w : World} {H H' : Hp} {h h' : Heap} {a C dx : Addr} {fs fs' : List (Str × V)}
theorem ins_get (hok : HOk P w H h) (e : H a = some (.ins C dx fs)) : ∃ mA, ObjM h a dx C mA ∧ (∀ f, RelO (fs.lookup f) (mA f)) ∧ PySem.Within mA (fs.map (·.1)) ∧ fs.length ≤ 1000 ∧ H dx = some (.own a) := by
  obtain ⟨d, z, ne, ob, mA, n, r, q⟩ := (show ObjOk P w H h a (.ins C dx fs) from hok a _ e)
  exact ⟨mA, ⟨ob, n, ne⟩, r, q, z, d⟩
end
structure Cls (K : PySem.W.Frag) (C : Addr) : Prop where
  pg : PySem.W.plainGet K C Str.empty = true
  hd : PySem.W.hasDictIn K C = true
  po : PySem.W.plainOver K C = true
  sa : PySem.W.findIn K (.ref C) "__setattr__" = some (some (.builtin "object.__setattr__"))
theorem Cls.get {K : PySem.W.Frag} {C : Addr} (c : Cls K C) (f : Str) : PySem.W.plainGet K C f = true := c.pg
def NoAttr (K : PySem.W.Frag) (C : Addr) (f : Str) : Prop := PySem.W.findIn K (.ref C) f = some none
theorem NoAttr.taker {K : PySem.W.Frag} {C : Addr} {f : Str} (n : NoAttr K C f) : PySem.W.takerIn K C f = some none := by
  unfold PySem.W.takerIn
  rw [show PySem.W.findIn K (.ref C) f = some none from n]
  rfl
section
variable {X : Cx} {pins : List (Addr × Obj)} {σ : St} {H : Hp} {s : Shared} {a C dx : Addr} {fs : List (Str × V)} {f : Str} {v : V} {A : Around} {E : Value → Shared → Prop}
theorem getattr_ok {b : Bool} {Q : Value → Shared → Prop} (I : Inv X pins σ H s) (e : H a = some (.ins C dx fs)) (c : Cls X.K C) (n : NoAttr X.K C f) (l : fs.lookup f = some v)
    (h : ∀ u s', Inv X pins σ H s' → RelV v u → Q u s') : wpAny (model X.prog X.w) A (getAttr (.ref a) f b) Q E s := by
  obtain ⟨mA, O, r, _, _, _⟩ := ins_get I.hok e
  obtain ⟨u, hu, ru⟩ := RelO.some_of (v := v) (o := mA f) (by rw [← l]; exact r f)
  exact get_map I.kIn O (c.get f) c.hd n hu (handed_of ru) (h u _ (I.tok _) ru)
theorem setattr_ok {y : V} {u : Value} {Q : Unit → Shared → Prop} (I : Inv X pins σ H s) (e : H a = some (.ins C dx fs)) (c : Cls X.K C) (n : NoAttr X.K C f) (hl : fs.length < 1000) (ry : RelV y u)
    (h : ∀ s', Inv X pins σ (upd H a (.ins C dx (putF f y fs))) s' → Q () s') : wpAny (model X.prog X.w) A (setAttr (.ref a) f u) Q E s := by
  obtain ⟨mA, O, r, wi, _, ho⟩ := ins_get I.hok e
  have hz : (fs.map (·.1)).length ≤ sizeLine := by rw [List.length_map, sizeLine_eq]; omega
  refine set_map I.kIn O c.sa c.po n.taker c.hd wi hz fun h' O' sb => h _ ?_
  have hd : ∃ o, h'.get? dx = some o := let ⟨o, _, _, e', _⟩ := O'.ns; ⟨o, e'⟩
  refine I.write (x := a) (e := dx) (by rw [e]; exact True.intro) (.inr ho) (fun b q hb z => (sb.2 b hb).trans z) hd ?_
  refine ⟨by rw [upd_ne O.ne]; exact ho, ?_, O.ne, O'.obj, _, O'.ns, fun g => ?_, fun g hg => ?_⟩
  · have := length_putF f y fs; omega
  · show RelO ((putF f y fs).lookup g) (if g = f then some u else mA g)
    rw [lookup_putF]
    by_cases q : g = f
    · rw [if_pos q, if_pos q]; exact ry
    · rw [if_neg q, if_neg q]; exact r g
  · by_cases q : g = f
    · rw [q]; exact (keys_putF f y fs).1
    · refine (keys_putF f y fs).2 g (wi g fun z => hg ?_)
      show (if g = f then some u else mA g) = none
      rw [if_neg q]; exact z
theorem Inv.made (I : Inv X pins σ H s) : Inv X pins σ (upd (upd H s.heap.objs.size (.own (s.heap.objs.size + 1))) (s.heap.objs.size + 1) (.ins C s.heap.objs.size []))
    { s with heap := (s.heap.push PySem.W.emptyDict).push (PySem.W.instObj C s.heap.objs.size) } := by
  have e1 : (s.heap.push PySem.W.emptyDict).get? s.heap.objs.size = some PySem.W.emptyDict := Heap.get?_push_size s.heap rfl
  have e2 : ((s.heap.push PySem.W.emptyDict).push (PySem.W.instObj C s.heap.objs.size)).get? (s.heap.objs.size + 1) = some (PySem.W.instObj C s.heap.objs.size) := by
    have := Heap.get?_push_size (s.heap.push PySem.W.emptyDict) (o := PySem.W.instObj C s.heap.objs.size) rfl
    rwa [Heap.size_push] at this
  have e3 : (s.heap.push PySem.W.emptyDict).Ns s.heap.objs.size (fun _ => none) := ⟨PySem.W.emptyDict, #[], _, e1, rfl, (fun e he => absurd he (by simp)), fun _ => rfl⟩
  have I1 := I.laid (a := s.heap.objs.size) (o := .own (s.heap.objs.size + 1)) (h' := s.heap.push PySem.W.emptyDict) (t' := s.toks) (fun b u q => Heap.get?_push_of_some _ q) (Nat.le_refl _) ⟨_, e1⟩
  refine I1.laid (a := s.heap.objs.size + 1) (o := .ins C s.heap.objs.size []) (t' := s.toks) (fun b u q => Heap.get?_push_of_some _ q) (Nat.le_of_eq (Heap.size_push _ _)) ?_
  have ne : s.heap.objs.size ≠ s.heap.objs.size + 1 := Nat.ne_of_lt (Nat.lt_succ_self _)
  refine ⟨by rw [upd_ne ne, upd_same], Nat.zero_le _, ne, e2, fun _ => none, (Heap.Ns1.of_empty e3).at fun o q => Heap.get?_push_of_some _ q, fun _ => True.intro, fun y hy => absurd rfl hy⟩
theorem attr_of {prog : Program} {w : World} {env : Env} {e : Expr} {f : Str} {pos : Pos} {s : Shared} {Q : Value → Shared → Prop} (hb : attributeBase e f env (eval e env) = eval e env)
    (h : wpAny (model prog w) A (eval e env) (fun o s₁ => wpAny (model prog w) A (getAttr o f true) Q E s₁) E s) : wpAny (model prog w) A (eval (.Attribute e f pos) env) Q E s :=
  Attribute_any_ h (by rw [arm_eval_Attribute, hb])
end
def tFld (K : PySem.W.Frag) (ta : TE) (f : Str) : TE := fun σ H Q => ta σ H fun x H1 => ∃ a C dx fs v, x = .ref a ∧ H1 a = some (.ins C dx fs) ∧ Cls K C ∧ NoAttr K C f ∧ fs.lookup f = some v ∧ Q v H1
def sFld (K : PySem.W.Frag) (ta tv : TE) (f : Str) : TS := fun D σ H => tv σ H fun y H1 => ta σ H1 fun x H2 => ∃ a C dx fs, x = .ref a ∧ H2 a = some (.ins C dx fs) ∧ Cls K C ∧ NoAttr K C f ∧ fs.length < 1000 ∧
  D.nx σ (upd H2 a (.ins C dx (putF f y fs)))
def InOp (X : Cx) (op : Operator) (rd : V → V → Hp → VK → Prop) : Prop :=
  ∀ (pins : List (Addr × Obj)) (s : Shared) (σ : St) (H : Hp) (x y : V) (u v : Value) (Q : VK), Inv X pins σ H s → RelV x u → RelV y v → rd x y H Q → wpAny (model X.prog X.w) X.A (inplaceOp op u v) (EP X pins σ Q) X.xe s
def sFldAug (K : PySem.W.Frag) (ta tv : TE) (rd : V → V → Hp → VK → Prop) (f : Str) : TS := fun D σ H => ta σ H fun x H1 => ∃ a C dx fs v, x = .ref a ∧ H1 a = some (.ins C dx fs) ∧ Cls K C ∧ NoAttr K C f ∧ fs.lookup f = some v ∧
  tv σ H1 fun y H2 => rd v y H2 fun z H3 => ∃ dx' fs', H3 a = some (.ins C dx' fs') ∧ fs'.length < 1000 ∧ D.nx σ (upd H3 a (.ins C dx' (putF f z fs')))
section
variable {X : Cx} {o e value : Expr} {f : Str} {pos pos' tpos : Pos} {ta tv : TE}
theorem pe_fld (he : PE X e ta) (hb : attributeBase e f X.env (eval e X.env) = eval e X.env) : PE X (.Attribute e f pos) (tFld X.K ta f) := by
  intro pins s σ H Q I h
  refine attr_of hb (thn (he pins s σ H _ I h) fun u s1 ⟨x, H1, I1, rx, a, C, dx, fs, v, ex, ea, c, n, l, q⟩ => ?_)
  subst ex
  obtain rfl : u = Value.ref a := rx
  exact getattr_ok I1 ea c n l fun u' s2 I2 ru => ⟨v, H1, I2, ru, q⟩
theorem ps_fld (ha : PE X o ta) (hv : PE X value tv) (hs : swapsWith value (some (.Attribute o f pos')) pos.line X.env = pure false) : PS X (.Assign [.Attribute o f pos'] value pos) (sFld X.K ta tv f) := by
  intro pins s σ H D I h
  refine plainObj_wpAny_Assign_Attribute (thn (hv pins s σ H _ I h) fun u s1 ⟨y, H1, I1, ry, q⟩ => thn (ha pins s1 σ H1 _ I1 q) fun ov s2 ⟨x, H2, I2, rx, a, C, dx, fs, ex, ea, c, n, l, q2⟩ => ?_) hs
  subst ex
  obtain rfl : ov = Value.ref a := rx
  exact setattr_ok I2 ea c n l ry fun s3 I3 => ⟨σ, _, I3, q2⟩
theorem ps_fldaug {op : Operator} {rd : V → V → Hp → VK → Prop} (ha : PE X o ta) (hv : PE X value tv) (hop : InOp X op rd) : PS X (.AugAssign (.Attribute o f tpos) op value pos) (sFldAug X.K ta tv rd f) := by
  intro pins s σ H D I h
  refine wpAny_AugAssign_AttributeAny (thn (ha pins s σ H _ I h) fun ov s1 ⟨x, H1, I1, rx, a, C, dx, fs, v, ex, ea, c, n, l, q⟩ => ?_)
  subst ex
  obtain rfl : ov = Value.ref a := rx
  refine getattr_ok I1 ea c n l fun u s2 I2 ru => thn (hv pins s2 σ H1 _ I2 q) fun w3 s3 ⟨y, H2, I3, ry, q3⟩ => thn (hop pins s3 σ H2 v y u w3 _ I3 ru ry q3) fun w4 s4 ⟨z, H3, I4, rz, dx', fs', ea', l', q4⟩ => ?_
  exact setattr_ok I4 ea' c n l' rz fun s5 I5 => ⟨σ, _, I5, q4⟩
def rAdd : V → V → Hp → VK → Prop := fun x y H Q => ∃ i j, x = .int i ∧ y = .int j ∧ Q (.int (i + j)) H
theorem in_add : InOp X .Add rAdd := by
  rintro pins s σ H x y u v Q I rx ry ⟨i, j, rfl, rfl, q⟩
  obtain ⟨t, rfl⟩ := (show ∃ t, u = Value.int i t from rx)
  obtain ⟨t', rfl⟩ := (show ∃ t', v = Value.int j t' from ry)
  exact PyProof.Rows.iadd_int ⟨.int (i + j), H, I.tok _, ⟨_, rfl⟩, q⟩
end
section
variable {X : Cx} {pins : List (Addr × Obj)} {σ : St} {H : Hp} {s : Shared} {A : Around} {E : Value → Shared → Prop} {Q : Value → Shared → Prop} {c : Value} {b : Bool}
end
end L2
namespace L2
open PySem PySem.Spec PyProof.Rows
structure Room (k : Nat) (A : Around) : Prop where
  hd : A.handled = none
  dp : A.depth + 3 * k + 5 < recursionLimit
  un : A.units + 16 * k + 200 < cLine
theorem Room.mono {j k : Nat} {A : Around} (r : Room k A) (h : j ≤ k) : Room j A := ⟨r.hd, by have := r.dp; omega, by have := r.un; omega⟩
theorem Room.deeper {k : Nat} {A : Around} (r : Room (k + 1) A) (env : Env) : Room k (A.deeper env) :=
  ⟨r.hd, by have := r.dp; show A.depth + 1 + 3 * k + 5 < _; omega, by have := r.un; show A.units + 3 + 16 * k + 200 < _; omega⟩
theorem make_depth {A : Around} {C : Addr} {us : List Value} {kw : List (Str × Value)} : (A.under (.builtin "type.__call__" ⟨.ref C :: us, kw⟩)).depth = A.depth + 1 := by
  first | rfl | simp [Around.under, Code.weight, Code.isCreation, Code.isGuard, Code.isCaller, Code.frames, Code.isFrame, guardIds]
theorem make_units {A : Around} {C : Addr} {us : List Value} {kw : List (Str × Value)} : (A.under (.builtin "type.__call__" ⟨.ref C :: us, kw⟩)).units = A.units + 1 := by
  first | rfl | simp [Around.under, Code.cUnits, Code.frames, Code.isFrame]
theorem Room.make {k : Nat} {A : Around} (r : Room (k + 1) A) (C : Addr) (us : List Value) (kw : List (Str × Value)) : Room k (A.under (.builtin "type.__call__" ⟨.ref C :: us, kw⟩)) :=
  ⟨r.hd, by have := r.dp; rw [make_depth]; omega, by have := r.un; rw [make_units]; omega⟩
theorem Room.depth {k : Nat} {A : Around} (r : Room k A) : A.depth < recursionLimit := by have := r.dp; omega
def tNil : TA := fun _ H Q => Q [] H
def tCons (ta : TE) (tr : TA) : TA := fun σ H Q => ta σ H fun x H1 => tr σ H1 fun xs H2 => Q (x :: xs) H2
section
variable {X : Cx} {e : Expr} {es : List Expr} {te : TE} {t : TA} {pos : Pos}
theorem pa_nil : PA X [] tNil := fun _ _ _ _ H Q I h => Calls.spliced_nil ⟨[], H, I, .nil, h⟩
theorem pa_cons (ha : PE X e te) (hr : PA X es t) (hs : starEach (e :: es) X.env = (false, eval e X.env) :: starEach es X.env := by rfl) : PA X (e :: es) (tCons te t) := by
  intro pos pins s σ H Q I h
  rw [hs]
  show wpAny _ _ (spliced ((false, eval e X.env) :: backTo pos (starEach es X.env))) _ _ s
  refine Calls.spliced_cons (thn (ha pins s σ H _ I h) fun u s1 ⟨x, H1, I1, r1, q1⟩ => ?_)
  exact thn (hr pos pins s1 σ H1 _ I1 q1) fun us s2 ⟨xs, H2, I2, r2, q2⟩ => ⟨x :: xs, H2, I2, .cons r1 r2, q2⟩
def tTup (t : TA) : TE := fun σ H Q => t σ H fun xs H1 => xs.length ≤ sizeLine ∧ ∀ p, H1 p = none → Q (.ref p) (upd H1 p (.tup xs))
def tLst (t : TA) : TE := fun σ H Q => t σ H fun xs H1 => xs.length ≤ sizeLine ∧ ∀ p, H1 p = none → Q (.ref p) (upd H1 p (.lst xs))
theorem pe_tup {x1} (h : PA X es t) : PE X (.Tuple es x1 pos) (tTup t) := by
  intro pins s σ H Q I hq
  refine wpAny_Tuple_spliced (thn (h pos pins s σ H _ I hq) fun us s1 ⟨xs, H1, I1, r, z, q⟩ => ⟨by rw [← r.length]; exact z, ?_⟩)
  have hf : H1 s1.heap.objs.size = none := I1.hok.fresh (Nat.le_refl _)
  refine ⟨.ref s1.heap.objs.size, upd H1 s1.heap.objs.size (.tup xs), I1.laid (t' := s1.toks) (fun b u e => Heap.get?_push_of_some _ e) (Nat.le_refl _) ?_, rfl, q _ hf⟩
  exact ⟨z, us, r, ⟨_, Heap.get?_push_size _ rfl, rfl, _, rfl⟩⟩
theorem pe_lst (h : PA X es t) : PE X (.List es pos) (tLst t) := by
  intro pins s σ H Q I hq
  refine wpAny_List_spliced (thn (h pos pins s σ H _ I hq) fun us s1 ⟨xs, H1, I1, r, z, q⟩ => ⟨by rw [← r.length]; exact z, ?_⟩)
  have hf : H1 s1.heap.objs.size = none := I1.hok.fresh (Nat.le_refl _)
  refine ⟨.ref s1.heap.objs.size, upd H1 s1.heap.objs.size (.lst xs), I1.laid (t' := s1.toks) (fun b u e => Heap.get?_push_of_some _ e) (Nat.le_refl _) ?_, rfl, q _ hf⟩
  exact ⟨z, us, 0, r, Heap.get?_push_size _ rfl⟩
end
abbrev Sp := List V → Hp → VK → XK → Prop
abbrev CXT := List Env → Hp → Shared → XK → Value → Shared → Prop
structure Env0 (P : Program) (w : World) (K : PySem.W.Frag) (mg : Str → Option Value) (base : Heap) (A : Around) (outer : List Env) (s : Shared) (H : Hp) : Prop where
  frames : A.frames = some outer
  mod : Mod K mg base
  bs : ∀ b o, base.get? b = some o → s.heap.get? b = some o ∧ H b = none
  bsz : base.objs.size ≤ s.heap.objs.size
  funs : s.heap.FunFrames base outer
  frf : ∀ b ∈ frs outer, H b = none
  hok : HOk P w H s.heap
  bare : AllBare s.gens
def CE (outer : List Env) (P : Program) (w : World) (H : Hp) (s : Shared) (Q : VK) (u : Value) (s' : Shared) : Prop :=
  ∃ v H', s'.os = s.os ∧ AllBare s'.gens ∧ Un (frs outer) [] H H' s.heap s'.heap ∧ HOk P w H' s'.heap ∧ RelV v u ∧ Q v H'
def CR (CX : CXT) (outer : List Env) (P : Program) (w : World) (H : Hp) (s : Shared) (Q : VK) (E : XK) (r : Result) (s' : Shared) : Prop :=
  match r with
  | .ok (.ret u) => CE outer P w H s Q u s'
  | .ok _ => False
  | .error e => CX outer H s E e s'
structure FnOk (P : Program) (w : World) (K : PySem.W.Frag) (mg : Str → Option Value) (base : Heap) (CX : CXT) (k : Nat) (f : Addr) (fd : FuncData) (ps : List Str) (sp : Sp) : Prop where
  len : ∀ vs H Q E, sp vs H Q E → vs.length = ps.length
  run : ∀ (A : Around) (outer : List Env) (s : Shared) (H : Hp) (args : Args) (us : List Value) (vs : List V) (Q : VK) (E : XK), Room k A → Env0 P w K mg base A outer s H → BindsTo s fd args (ps.zip us) → Vals vs us → sp vs H Q E →
    codeAny (model P w) A (.call (.ref f) args) (CR CX outer P w H s Q E) s
theorem FnOk.mono {P : Program} {w : World} {K : PySem.W.Frag} {mg : Str → Option Value} {base : Heap} {CX : CXT} {j k : Nat} {f : Addr} {fd : FuncData} {ps : List Str} {sp : Sp} (F : FnOk P w K mg base CX j f fd ps sp) (h : j ≤ k) :
    FnOk P w K mg base CX k f fd ps sp := ⟨F.len, fun A outer s H args us vs Q E hr => F.run A outer s H args us vs Q E (hr.mono h)⟩
theorem FnOk.imp {P : Program} {w : World} {K : PySem.W.Frag} {mg : Str → Option Value} {base : Heap} {CX : CXT} {k : Nat} {f : Addr} {fd : FuncData} {ps : List Str} {sp sp' : Sp} (F : FnOk P w K mg base CX k f fd ps sp)
    (h : ∀ vs H Q E, sp' vs H Q E → sp vs H Q E) : FnOk P w K mg base CX k f fd ps sp' :=
  ⟨fun vs H Q E q => F.len vs H Q E (h _ _ _ _ q), fun A outer s H args us vs Q E hr he hb hv hs => F.run A outer s H args us vs Q E hr he hb hv (h _ _ _ _ hs)⟩
theorem Env0.make {P : Program} {w : World} {K : PySem.W.Frag} {mg : Str → Option Value} {base : Heap} {A : Around} {outer : List Env} {s : Shared} {H : Hp} (e : Env0 P w K mg base A outer s H) (C : Addr) (us : List Value) (kw : List (Str × Value)) :
    Env0 P w K mg base (A.under (.builtin "type.__call__" ⟨.ref C :: us, kw⟩)) outer s H := ⟨by first | exact e.frames | (simpa [Around.under, Code.envs, Code.isFrame, pushEnvs] using e.frames), e.mod, e.bs, e.bsz, e.funs, e.frf, e.hok, e.bare⟩
section
variable {X : Cx} {pins : List (Addr × Obj)} {σ : St} {H : Hp} {s s' : Shared}
theorem Inv.env0 (I : Inv X pins σ H s) : Env0 X.prog X.w X.K X.mg X.base X.A X.stack s H :=
  ⟨I.ok.frames, I.ok.mod, I.bs, Nat.le_trans I.ok.bsz I.sz, I.stack, I.stkFree, I.hok, I.bare⟩
theorem Inv.after {Q : VK} {u : Value} (I : Inv X pins σ H s) (h : CE X.stack X.prog X.w H s Q u s') : EP X pins σ Q u s' := by
  obtain ⟨v, H', os, bare, un, hok, r, q⟩ := h
  obtain ⟨hh, g, d, t, os'⟩ := s'
  obtain rfl : os' = s.os := os
  exact ⟨v, H', I.call (h' := hh) (g' := g) (d' := d) (t' := t) (ch := []) un hok bare (fun b z => absurd z (by simp)), r, q⟩
end
def tCall (sp : Sp) (dvs : List V) (E : XK) (t : TA) : TE := fun σ H Q => t σ H fun vs H1 => sp (vs ++ dvs) H1 Q E
def tMake (C : Addr) (sp : Sp) (dvs : List V) (E : XK) (t : TA) : TE := fun σ H Q => t σ H fun vs H1 => ∀ x dx, H1 x = none → H1 dx = none → dx ≠ x →
  sp (.ref x :: (vs ++ dvs)) (upd (upd H1 dx (.own x)) x (.ins C dx [])) (fun v H2 => v = .non ∧ Q (.ref x) H2) E
def Binds (K : PySem.W.Frag) (fd : FuncData) (ps : List Str) (ds : List Value) : Prop :=
  ∀ (s : Shared) (us : List Value), K.In s.heap → (us ++ ds).length = ps.length → BindsTo s fd ⟨us, []⟩ (ps.zip (us ++ ds))
theorem Binds.all {K : PySem.W.Frag} {fd : FuncData} {ps : List Str} (h : ∀ us : List Value, us.length = ps.length → bindArgs fd ⟨us, []⟩ = pure (ps.zip us)) : Binds K fd ps [] := fun s us _ hl => by
  rw [List.append_nil] at hl ⊢
  exact .of_eq (h us hl)
def Passes (CX : CXT) (X : Cx) (E : XK) : Prop := ∀ (pins : List (Addr × Obj)) (σ : St) (H : Hp) (s : Shared) (e : Value) (s' : Shared), Inv X pins σ H s → CX X.stack H s E e s' → X.xe e s'
section
variable {X : Cx} {CX : CXT} {k : Nat} {f C : Addr} {fd : FuncData} {ps : List Str} {sp : Sp} {dvs : List V} {ds : List Value} {E : XK} {x m : Str} {p pos apos : Pos} {e o : Expr} {es : List Expr} {ta : TE} {t : TA}
theorem run_fn {pins : List (Addr × Obj)} {σ : St} {H : Hp} {s : Shared} {Q : VK} {us : List Value} {vs : List V} (F : FnOk X.prog X.w X.K X.mg X.base CX k f fd ps sp) (hr : Room k X.A) (hb : Binds X.K fd ps ds) (hd : Vals dvs ds) (hx : Passes CX X E)
    (I : Inv X pins σ H s) (r : Vals vs us) (h : sp (vs ++ dvs) H Q E) : wpAny (model X.prog X.w) X.A (call (.ref f) us) (EP X pins σ Q) X.xe s := by
  have r2 : Vals (vs ++ dvs) (us ++ ds) := r.append hd
  have hl : (us ++ ds).length = ps.length := by rw [← r2.length]; exact F.len _ _ _ _ h
  refine wpAny_call (codeAny_mono (F.run X.A X.stack s H ⟨us, []⟩ (us ++ ds) (vs ++ dvs) Q E hr I.env0 (hb s us I.kIn hl) r2 h) fun r s' hq => ?_)
  cases r with
  | error e => exact hx pins σ H s e s' I hq
  | ok fl =>
    cases fl with
    | ret u => exact I.after hq
    | next => exact False.elim hq
    | brk => exact False.elim hq
    | cont => exact False.elim hq
theorem pe_call (F : FnOk X.prog X.w X.K X.mg X.base CX k f fd ps sp) (hr : Room k X.A) (hg : Gl X x) (hm : X.mg x = some (.ref f)) (hk : PySem.W.keepIn X.K (.ref f) = true) (hb : Binds X.K fd ps ds) (hd : Vals dvs ds) (hx : Passes CX X E)
    (ha : PA X (e :: es) t) (hdb : (x == ("__debug__" : Str)) = false := by decide) (he : starEach (e :: es) X.env = (false, eval e X.env) :: starEach es X.env := by rfl) (hpl : (backTo pos (starEach es X.env)).any (·.1) = false := by rfl) :
    PE X (.Call (.Name x p) (e :: es) [] pos) (tCall sp dvs E t) := by
  intro pins s σ H Q I h
  refine wpAny_Call_Name_kw (ld_glob I hg hm ?_ hdb)
  refine PySem.W.callWith_K (h₀ := X.base) I.ok.mod.kin hk (thn (ha pos pins s σ H _ I h) fun us s1 ⟨vs, H1, I1, r, q⟩ => ⟨I1.kIn, ?_⟩) he hpl
  exact run_fn F hr hb hd hx I1 r q
structure Mk (K : PySem.W.Frag) (C f : Addr) : Prop where
  makes : PySem.W.makesIn K C = true
  init : PySem.W.findIn K (.ref C) "__init__" = some (some (.ref f))
  fn : PySem.W.isFn K (.ref f) = true
  kp : PySem.W.keepIn K (.ref C) = true
theorem run_make {pins : List (Addr × Obj)} {σ : St} {H : Hp} {s : Shared} {Q : VK} {us : List Value} {vs : List V} (M : Mk X.K C f) (F : FnOk X.prog X.w X.K X.mg X.base CX k f fd ps sp) (hr : Room (k + 1) X.A) (hb : Binds X.K fd ps ds) (hd : Vals dvs ds)
    (hx : Passes CX X E) (I : Inv X pins σ H s) (r : Vals vs us)
    (h : ∀ x dx, H x = none → H dx = none → dx ≠ x → sp (.ref x :: (vs ++ dvs)) (upd (upd H dx (.own x)) x (.ins C dx [])) (fun v H2 => v = .non ∧ Q (.ref x) H2) E) :
    wpAny (model X.prog X.w) X.A (call (.ref C) us) (EP X pins σ Q) X.xe s := by
  have hq := h (s.heap.objs.size + 1) s.heap.objs.size (I.hok.fresh (Nat.le_succ _)) (I.hok.fresh (Nat.le_refl _)) (Nat.ne_of_lt (Nat.lt_succ_self _))
  have I2 := Inv.made (C := C) I
  have r2 : Vals (V.ref (s.heap.objs.size + 1) :: (vs ++ dvs)) (Value.ref (s.heap.objs.size + 1) :: (us ++ ds)) := .cons rfl (r.append hd)
  have hl : (Value.ref (s.heap.objs.size + 1) :: us ++ ds).length = ps.length := by
    have e := r2.length
    rw [F.len _ _ _ _ hq] at e
    exact e.symm
  refine wpAny_call (make_map (f := f) I.kIn M.makes M.init (beq_iff_eq.mp M.fn) (codeAny_mono (F.run _ X.stack _ _ ⟨Value.ref (s.heap.objs.size + 1) :: us, []⟩ (Value.ref (s.heap.objs.size + 1) :: (us ++ ds)) _ _ E (hr.make C us [])
    (I2.env0.make C us []) (hb _ (Value.ref (s.heap.objs.size + 1) :: us) I2.kIn hl) r2 hq) fun r s' hq' => ?_))
  cases r with
  | error e => exact hx pins σ _ _ e s' I2 hq'
  | ok fl =>
    cases fl with
    | ret u =>
      obtain ⟨v, H', I3, rv, ev, q3⟩ := I2.after hq'
      subst ev
      exact ⟨rv, ⟨V.ref (s.heap.objs.size + 1), H', I3, rfl, q3⟩⟩
    | next => exact False.elim hq'
    | brk => exact False.elim hq'
    | cont => exact False.elim hq'
theorem pe_make (M : Mk X.K C f) (F : FnOk X.prog X.w X.K X.mg X.base CX k f fd ps sp) (hr : Room (k + 1) X.A) (hg : Gl X x) (hm : X.mg x = some (.ref C)) (hb : Binds X.K fd ps ds) (hd : Vals dvs ds) (hx : Passes CX X E)
    (ha : PA X (e :: es) t) (hdb : (x == ("__debug__" : Str)) = false := by decide) (he : starEach (e :: es) X.env = (false, eval e X.env) :: starEach es X.env := by rfl) (hpl : (backTo pos (starEach es X.env)).any (·.1) = false := by rfl) :
    PE X (.Call (.Name x p) (e :: es) [] pos) (tMake C sp dvs E t) := by
  intro pins s σ H Q I h
  refine wpAny_Call_Name_kw (ld_glob I hg hm ?_ hdb)
  refine PySem.W.callWith_K (h₀ := X.base) I.ok.mod.kin M.kp (thn (ha pos pins s σ H _ I h) fun us s1 ⟨vs, H1, I1, r, q⟩ => ⟨I1.kIn, ?_⟩) he hpl
  exact run_make M F hr hb hd hx I1 r q
theorem pe_make0 (M : Mk X.K C f) (F : FnOk X.prog X.w X.K X.mg X.base CX k f fd ps sp) (hr : Room (k + 1) X.A) (hg : Gl X x) (hm : X.mg x = some (.ref C)) (hb : Binds X.K fd ps ds) (hd : Vals dvs ds) (hx : Passes CX X E)
    (hdb : (x == ("__debug__" : Str)) = false := by decide) : PE X (.Call (.Name x p) [] [] pos) (tMake C sp dvs E tNil) := by
  intro pins s σ H Q I h
  refine wpAny_Call_Name_kw (ld_glob I hg hm ?_ hdb)
  exact PySem.W.callWith_K0 I.kIn M.kp (run_make (us := []) M F hr hb hd hx I .nil h)
end
section
variable {X : Cx} {CX : CXT} {k : Nat} {f C : Addr} {fd : FuncData} {ps ks : List Str} {sp : Sp} {E : XK} {x m : Str} {p pos apos kpos : Pos} {e o : Expr} {es : List Expr} {kws : List Keyword} {te ta : TE} {t tk : TA} {nm : Option Str}
variable {g : List Value → List Value → List Value} {gV : List V → List V → List V}
end
structure FnScope (N P : List Str) (sc : Scope) : Prop where
  kind : sc.kind = .function
  co : sc.isCoroutine = false
  gen : sc.isGenerator = false
  nd : N.Nodup
  pre : N.take P.length = P
  par : ∀ x ∈ P, sc.names.lookup x = some .local ∨ sc.names.lookup x = some .cell
  nofree : ∀ y ∈ sc.names, y.2 ≠ .free
theorem bindL_out {kindOf : Str → Option NameKind} {x : Str} : ∀ {binds : List (Str × Value)} {m : Str → Option Value}, (∀ v, (x, v) ∉ binds) → bindL kindOf binds m x = m x
  | [], _, _ => rfl
  | (n, v) :: r, m, h => by
    unfold bindL
    rw [bindL_out fun w hw => h w (List.mem_cons_of_mem _ hw)]
    split
    · have : x ≠ n := by rintro rfl; exact h v List.mem_cons_self
      simp [this]
    · rfl
theorem bindC_out {kindOf : Str → Option NameKind} {x : Str} : ∀ {binds : List (Str × Value)} {m : Str → Option Value}, (∀ v, (x, v) ∉ binds) → bindC kindOf binds m x = m x
  | [], _, _ => rfl
  | (n, v) :: r, m, h => by
    unfold bindC
    rw [bindC_out fun w hw => h w (List.mem_cons_of_mem _ hw)]
    split
    · rfl
    · have : x ≠ n := by rintro rfl; exact h v List.mem_cons_self
      simp [this]
theorem bindL_get {kindOf : Str → Option NameKind} {x : Str} {v : Value} : ∀ {P : List Str} {vs : List Value} {i : Nat} {m : Str → Option Value}, P.Nodup → P[i]? = some x → vs[i]? = some v → kindOf x = some .local →
    bindL kindOf (P.zip vs) m x = some v
  | [], _, _, _, _, h, _, _ => by simp at h
  | _ :: _, [], _, _, _, _, h, _ => by simp at h
  | p :: P, w :: vs, 0, m, nd, h1, h2, hk => by
    simp at h1 h2; subst h1; subst h2
    show bindL kindOf ((p, w) :: P.zip vs) m p = _
    unfold bindL
    rw [bindL_out fun v hv => (List.nodup_cons.mp nd).1 (List.of_mem_zip hv).1, if_pos hk]
    simp
  | p :: P, w :: vs, i + 1, m, nd, h1, h2, hk => by
    show bindL kindOf ((p, w) :: P.zip vs) m x = _
    unfold bindL
    exact bindL_get (i := i) (List.nodup_cons.mp nd).2 (by simpa using h1) (by simpa using h2) hk
theorem bindC_get {kindOf : Str → Option NameKind} {x : Str} {v : Value} : ∀ {P : List Str} {vs : List Value} {i : Nat} {m : Str → Option Value}, P.Nodup → P[i]? = some x → vs[i]? = some v → kindOf x ≠ some .local →
    bindC kindOf (P.zip vs) m x = some v
  | [], _, _, _, _, h, _, _ => by simp at h
  | _ :: _, [], _, _, _, _, h, _ => by simp at h
  | p :: P, w :: vs, 0, m, nd, h1, h2, hk => by
    simp at h1 h2; subst h1; subst h2
    show bindC kindOf ((p, w) :: P.zip vs) m p = _
    unfold bindC
    rw [bindC_out fun v hv => (List.nodup_cons.mp nd).1 (List.of_mem_zip hv).1, if_neg hk]
    simp
  | p :: P, w :: vs, i + 1, m, nd, h1, h2, hk => by
    show bindC kindOf ((p, w) :: P.zip vs) m x = _
    unfold bindC
    exact bindC_get (i := i) (List.nodup_cons.mp nd).2 (by simpa using h1) (by simpa using h2) hk
def start (N : List Str) (vs : List V) : St := vs.map some ++ List.replicate (N.length - vs.length) none
def cxOf (CX : CXT) (P : Program) (w : World) (K : PySem.W.Frag) (mg : Str → Option Value) (base : Heap) (N : List Str) (qual : Str) (scope : Scope) (f : Addr) (cd : Value) (A : Around) (outer : List Env) (s : Shared) (H : Hp) (E : XK) : Cx where
  prog := P
  w := w
  K := K
  mg := mg
  base := base
  A := A.deeper (envOfC qual scope s.heap.objs.size f cd)
  N := N
  s_0 := s
  H_0 := H
  env := envOfC qual scope s.heap.objs.size f cd
  outer := outer
  stack := envOfC qual scope s.heap.objs.size f cd :: outer
  ex := []
  calm := true
  fn := fun _ => true
  pn := []
  xe := fun e s' => wpAny (model P w) (A.deeper (envOfC qual scope s.heap.objs.size f cd)) (leaving (envOfC qual scope s.heap.objs.size f cd) e) (fun _ s'' => CX outer H s E e s'') (fun e' s'' => CX outer H s E e' s'') s'
theorem cell_has {sc : Scope} {n : Nat} {x : Str} (h : sc.names.lookup x = some .cell) : ∃ c, (cellsFrom n sc.names []).lookup x = some c := by
  have q := PySem.W.cellsFrom_some sc.names n [] (.inl h)
  exact Option.isSome_iff_exists.mp q
theorem inv_start {CX : CXT} {P : Program} {w : World} {K : PySem.W.Frag} {mg : Str → Option Value} {base : Heap} {N ps : List Str} {qual : Str} {scope : Scope} {f : Addr} {cd : Value} {A : Around} {outer : List Env} {s s1 : Shared} {H : Hp} {E : XK} {us : List Value} {vs : List V}
    (S : FnScope N ps scope) (hd : A.handled = none) (e0 : Env0 P w K mg base A outer s H) (hl : vs.length = ps.length) (r : Vals vs us)
    (x : InCallC s s.heap.objs.size (bindL (envOfC qual scope s.heap.objs.size f cd).kindOf (ps.zip us) fun _ => none) (cellsFrom (s.heap.objs.size + 1) scope.names []) (bindC (envOfC qual scope s.heap.objs.size f cd).kindOf (ps.zip us) fun _ => none) s1) :
    Inv (cxOf CX P w K mg base N qual scope f cd A outer s H E) [] (start N vs) H s1 := by
  have hpl : ps.length ≤ N.length := by have := congrArg List.length S.pre; rw [List.length_take] at this; omega
  obtain ⟨h1, tk, rfl, hk⟩ := x.done
  have noA : ∀ b : Addr, b ∉ (cxOf CX P w K mg base N qual scope f cd A outer s H E).ex := fun b z => absurd (show b ∈ ([] : List Addr) from z) (by simp)
  refine ⟨⟨e0.mod, S.kind, rfl, rfl, Nat.le_refl _, fun y z c h1 h2 => ?_, fun y hy => ?_, fun y c _ h => ?_, fun _ => hd, Around.frames_deeper e0.frames, .inr ⟨rfl, rfl⟩, fun b z => absurd z (noA b), e0.bs, e0.bsz, fun b _ _ => noA b, fun b z => absurd z (noA b), e0.funs, e0.frf⟩,
    rfl, e0.bare, Un.kept hk, ⟨_, x.toInCall.ns, fun i y v h1 h2 h3 => ?_⟩, fun y c h => ⟨_, x.cell y c h⟩, e0.hok.fresh (Nat.le_refl _), fun y c h => ?_, fun p hp => absurd (show p ∈ ([] : List (Addr × Obj)) from hp) (by simp), e0.hok.kept hk, ?_⟩
  · exact name_of_addr x.apart (PySem.mem_of_lookup h1) (PySem.mem_of_lookup h2)
  · have hy : scope.names.lookup y = some .cell ∨ scope.names.lookup y = some .free := hy
    rcases hy with hy | hy
    · exact cell_has hy
    · exact absurd rfl (S.nofree _ (PySem.mem_of_lookup hy))
  · exact Nat.le_of_lt (x.above y c (PySem.mem_of_lookup h))
  · have hi : i < vs.length := by
      unfold start at h2
      by_cases hi : i < vs.length
      · exact hi
      · rw [List.getElem?_append_right (by simpa using hi)] at h2
        rw [List.getElem?_replicate] at h2
        split at h2 <;> cases h2
    have ha : vs[i]? = some v := by
      unfold start at h2
      rw [List.getElem?_append_left (by simpa using hi), List.getElem?_map] at h2
      cases e : vs[i]? with
      | none => rw [e] at h2; cases h2
      | some a => rw [e] at h2; cases h2; rfl
    obtain ⟨u, hu, rv⟩ := r.get ha
    have hp : ps[i]? = some y := by
      rw [← S.pre, List.getElem?_take_of_lt (by omega)]; exact h1
    have ndP : ps.Nodup := by rw [← S.pre]; exact S.nd.sublist (List.take_sublist _ _)
    refine ⟨u, rv, ?_⟩
    rcases S.par y (List.mem_of_getElem? hp) with k | k
    · exact .inl ⟨k, bindL_get ndP hp hu k⟩
    · obtain ⟨c, e⟩ := cell_has (n := s.heap.objs.size + 1) k
      refine .inr ⟨.inl k, c, e, ?_⟩
      have q := x.cell y c e
      rw [bindC_get ndP hp hu (by show scope.names.lookup y ≠ _; rw [k]; decide)] at q
      exact q
  · exact e0.hok.fresh (Nat.le_of_lt (x.above y c (PySem.mem_of_lookup h)))
  · unfold start
    show _ = N.length
    rw [List.length_append, List.length_map, List.length_replicate]
    omega
theorem fn_of {CX : CXT} {P : Program} {w : World} {K : PySem.W.Frag} {mg : Str → Option Value} {base : Heap} {k : Nat} {f : Addr} {name qual : Str} {params : Arguments} {body : List Stmt} {scope : Scope} {dV kV doc pm cdv ct oc : Value} {an od : Option Addr}
    {osl : Array (Option Value)} {N ps : List Str} {sp : Sp} (lk : K.lookup f = some ⟨oc, od, .func (PySem.W.fnOf name qual params body scope dV kV doc pm an cdv ct), osl⟩) (hcd : PySem.W.codeIn K cdv qual = true) (S : FnScope N ps scope)
    (len : ∀ vs H Q E, sp vs H Q E → vs.length = ps.length)
    (hbody : ∀ (A : Around) (outer : List Env) (s : Shared) (H : Hp) (vs : List V) (Q : VK) (E : XK), Room k (A.deeper (envOfC qual scope s.heap.objs.size f cdv)) → sp vs H Q E →
      ∃ t, PSs (cxOf CX P w K mg base N qual scope f cdv A outer s H E) body t ∧ t { nx := fun _ H' => Q .non H', rt := Q } (start N vs) H) :
    FnOk P w K mg base CX (k + 1) f (PySem.W.fnOf name qual params body scope dV kV doc pm an cdv ct) ps sp := by
  refine ⟨len, fun A outer s H args us vs Q E hr e0 hb r hsp => ?_⟩
  have hl := len _ _ _ _ hsp
  have KX : K.In s.heap := e0.mod.kin.keeps fun b o e => (e0.bs b o e).1
  have lim : s.heap.NoLimit := e0.mod.nolimit.keeps fun b o e => (e0.bs b o e).1
  have hkind : ∀ y ∈ ps.zip us, scope.names.lookup y.1 = some .local ∨ (scope.names.lookup y.1 = some .cell ∧ ((cellsFrom (s.heap.objs.size + 1) scope.names []).lookup y.1).isSome = true) := fun ⟨n, v⟩ hy => by
    rcases S.par n (List.of_mem_zip hy).1 with q | q
    · exact .inl q
    · exact .inr ⟨q, PySem.W.cellsFrom_some _ _ _ (.inl q)⟩
  refine codeAny_call_function hr.depth (KX _ _ lk) rfl S.co S.gen rfl (PySem.W.codeRec_of KX hcd) (hb _ _ _ _ ?_)
  refine wpAny_newFunctionEnv_cells S.kind hkind fun env he s1 x => ?_
  subst he
  refine ⟨lim.keeps x.toInCall.keep, codeAny_func ?_⟩
  obtain ⟨t, ht, hq⟩ := hbody A outer s H vs Q E (hr.deeper _) hsp
  have I : Inv (cxOf CX P w K mg base N qual scope f cdv A outer s H E) [] (start N vs) H s1 := inv_start S hr.hd e0 hl r x
  refine wpAny_mono (ht [] s1 (start N vs) H _ I hq) (fun fl s' hs => ?_) fun e s' hs => hs
  have fin : ∀ {σ' : St} {H' : Hp} {v : V} {u : Value}, Inv (cxOf CX P w K mg base N qual scope f cdv A outer s H E) [] σ' H' s' → RelV v u → Q v H' → CE outer P w H s Q u s' :=
    fun {σ' H' v u} J rv q => ⟨v, H', J.os, J.bare, J.base, J.hok, rv, q⟩
  cases fl with
  | ret u =>
    obtain ⟨v, σ', H', J, rv, q⟩ := hs
    exact fin J rv q
  | next =>
    obtain ⟨σ', H', J, q⟩ := hs
    exact fin (v := V.non) (u := Value.none) J rfl q
  | brk =>
    obtain ⟨_, _, _, q⟩ := hs
    exact False.elim q
  | cont =>
    obtain ⟨_, _, _, q⟩ := hs
    exact False.elim q
end L2
namespace L2
open PySem PySem.Spec PyProof.Rows
section
variable {X : Cx} {x : Str} {p pos : Pos} {e : Expr} {es : List Expr} {t : TA} {id T : String} {r : List V → Hp → VK → Prop}
def tCB (r : List V → Hp → VK → Prop) (t : TA) : TE := fun σ H Q => t σ H fun vs H1 => r vs H1 Q
theorem pe_callB (hc : CallR X (.builtin id) r) (hg : Gl X x) (hm : X.mg x = none) (hv : bootBuiltins x = some (.builtin id)) (ha : PA X (e :: es) t) (hn : x ≠ "__name__" := by decide) (hdb : (x == ("__debug__" : Str)) = false := by decide)
    (he : starEach (e :: es) X.env = (false, eval e X.env) :: starEach es X.env := by rfl) (hpl : (backTo pos (starEach es X.env)).any (·.1) = false := by rfl) : PE X (.Call (.Name x p) (e :: es) [] pos) (tCB r t) := by
  intro pins s σ H Q I h
  refine wpAny_Call_Name_kw (ld_blt I hg hm hv ?_ hn hdb)
  exact PyProof.Rows.callWith_builtin1 (thn (ha pos pins s σ H _ I h) fun us s1 ⟨vs, H1, I1, r1, q1⟩ => hc pins s1 σ H1 vs us Q I1 r1 q1) he hpl
theorem pe_callTy (hc : CallR X (.type T) r) (hg : Gl X x) (hm : X.mg x = none) (hv : bootBuiltins x = some (.type T)) (ha : PA X (e :: es) t) (hn : x ≠ "__name__" := by decide) (hdb : (x == ("__debug__" : Str)) = false := by decide)
    (he : starEach (e :: es) X.env = (false, eval e X.env) :: starEach es X.env := by rfl) (hpl : (backTo pos (starEach es X.env)).any (·.1) = false := by rfl) : PE X (.Call (.Name x p) (e :: es) [] pos) (tCB r t) := by
  intro pins s σ H Q I h
  refine wpAny_Call_Name_kw (ld_blt I hg hm hv ?_ hn hdb)
  exact PyProof.Rows.callWith_type1 (thn (ha pos pins s σ H _ I h) fun us s1 ⟨vs, H1, I1, r1, q1⟩ => hc pins s1 σ H1 vs us Q I1 r1 q1) he hpl
end
end L2
namespace HT
open PySem PyProof.Rows
section
open PySem.SeqAt
open PySem.AutoSeq1 (wpAny_loadPart')
open PySem.MeetsSeq PySem.MeetsSeq2 PySem.MeetsSeq3
end
section
variable {prog : Program} {w : World} {A : Around} {E : Value → Shared → Prop} {s : Shared}
def sIx (n d : Nat) : Option Int → Nat
  | none => d
  | some v => if v < 0 then (v + (n : Int)).toNat else min v.toNat n
theorem sIx_none (n d : Nat) : sIx n d none = d := rfl
theorem sIx_nat (n d k : Nat) : sIx n d (some (k : Int)) = min k n := by
  show (if (k : Int) < 0 then ((k : Int) + (n : Int)).toNat else min (k : Int).toNat n) = min k n
  rw [if_neg (by omega), Int.toNat_natCast]
end
end HT
namespace L2
open PySem PySem.Spec PyProof.Rows
abbrev TO := St → Hp → (Option Int → Hp → Prop) → Prop
def PO (X : Cx) (e : Option Expr) (t : TO) : Prop :=
  ∀ (pins : List (Addr × Obj)) (s : Shared) (σ : St) (H : Hp) (Q : Option Int → Hp → Prop), Inv X pins σ H s → t σ H Q →
    wpAny (model X.prog X.w) X.A (evalPart e X.env) (fun u s' => ∃ o H', Inv X pins σ H' s' ∧ IsPart u o ∧ Q o H') X.xe s
def tNoPart : TO := fun _ H Q => Q none H
def tPart (t : TE) : TO := fun σ H Q => t σ H fun x H1 => ∃ i, x = .int i ∧ Q (some i) H1
section
variable {X : Cx} {e : Expr} {te : TE} {lo hi : Option Expr} {tl th : TO} {pos p2 : Pos}
theorem po_none : PO X none tNoPart := by
  intro pins s σ H Q I h
  rw [evalPart_none]
  exact wpAny_pure ⟨none, H, I, .none, h⟩
theorem po_some (h : PE X e te) : PO X (some e) (tPart te) := by
  intro pins s σ H Q I hw
  rw [evalPart_some]
  refine thn (h pins s σ H _ I hw) fun u s1 ⟨x, H1, I1, r1, q1⟩ => ?_
  obtain ⟨i, rfl, q⟩ := q1
  obtain ⟨t, rfl⟩ := r1
  exact ⟨some i, H1, I1, .int i t, q⟩
def SlR (X : Cx) (r : V → Option Int → Option Int → Hp → VK → Prop) : Prop :=
  ∀ (pins : List (Addr × Obj)) (s : Shared) (σ : St) (H : Hp) (x : V) (v vl vu : Value) (lo hi : Option Int) (sl : Addr) (Q : VK), Inv X pins σ H s → RelV x v → s.heap.IsSliceOf sl vl vu .none → IsPart vl lo → IsPart vu hi → r x lo hi H Q →
    ∃ T id, typeLookup (.type T) "__getitem__" = pure (some (.builtin id)) ∧ s.TypeIs v T ∧ wpAny (model X.prog X.w) X.A (getItem v (.ref sl)) (EP X pins σ Q) X.xe s
def tSl (r : V → Option Int → Option Int → Hp → VK → Prop) (te : TE) (tl th : TO) : TE := fun σ H Q => te σ H fun x H1 => tl σ H1 fun l H2 => th σ H2 fun u H3 => r x l u H3 Q
theorem pe_slice {r : V → Option Int → Option Int → Hp → VK → Prop} (hr : SlR X r) (he : PE X e te) (hl : PO X lo tl) (hu : PO X hi th) : PE X (.Subscript e (.Slice lo hi none p2) pos) (tSl r te tl th) := by
  intro pins s σ H Q I h
  refine Subscript_ (thn (he pins s σ H _ I h) fun v s1 ⟨x, H1, I1, r1, q1⟩ => ?_)
  refine wpAny_Slice (thn (hl pins s1 σ H1 _ I1 q1) fun vl s2 ⟨l, H2, I2, pl, q2⟩ => thn (hu pins s2 σ H2 _ I2 q2) fun vu s3 ⟨u, H3, I3, pu, q3⟩ => ?_)
  rw [evalPart_none]
  refine wpAny_pure ?_
  have I4 : Inv X pins σ H3 { s3 with heap := s3.heap.push { cls := .type "slice", data := .fields #[vl, vu, .none] } } := I3.kept (t' := s3.toks) fun b ob q => Heap.get?_push_of_some _ q
  obtain ⟨T, id, hT, ht, hg⟩ := hr pins { s3 with heap := s3.heap.push { cls := .type "slice", data := .fields #[vl, vu, .none] } } σ H3 x v vl vu l u s3.heap.objs.size Q I4 r1 (Heap.IsSliceOf.new ..) pl pu q3
  show wpAny (model X.prog X.w) X.A (subscriptTail e (.Slice lo hi none p2) v (.ref s3.heap.objs.size)) (EP X pins σ Q) X.xe { s3 with heap := s3.heap.push { cls := .type "slice", data := .fields #[vl, vu, .none] } }
  exact tail_any (ops := [.ref s3.heap.objs.size, v]) ht hT hg (by with_unfolding_all rfl)
def cutV (xs : List V) (lo hi : Option Int) : List V := (xs.drop (HT.sIx xs.length 0 lo)).take (HT.sIx xs.length xs.length hi - HT.sIx xs.length 0 lo)
theorem cutV_length (xs : List V) (lo hi : Option Int) : (cutV xs lo hi).length ≤ xs.length := by
  unfold cutV
  rw [List.length_take, List.length_drop]
  omega
end
end L2
namespace L2
open PySem PySem.Spec PyProof.Rows
def ixN (n : Nat) (i : Int) : Option Nat := if 0 ≤ i then (if i < n then some i.toNat else none) else if -(n : Int) ≤ i then some (i + n).toNat else none
def atI {α : Type} (xs : List α) (i : Int) : Option α := (ixN xs.length i).bind fun j => xs[j]?
theorem ixN_seq {n : Nat} {i : Int} {j : Nat} (h : ixN n i = some j) : seqIndex? i n = some j ∧ j < n ∧ -(n : Int) ≤ i ∧ i < n := by
  unfold ixN at h
  by_cases h0 : 0 ≤ i
  · rw [if_pos h0] at h
    by_cases h1 : i < n
    · rw [if_pos h1] at h
      have e : i.toNat = j := Option.some.inj h
      exact ⟨by rw [seqIndex_of h0 h1, e], by omega, by omega, h1⟩
    · rw [if_neg h1] at h; cases h
  · rw [if_neg h0] at h
    by_cases h1 : -(n : Int) ≤ i
    · rw [if_pos h1] at h
      have e : (i + n).toNat = j := Option.some.inj h
      exact ⟨by rw [seqIndex_neg (by omega) h1, e], by omega, h1, by omega⟩
    · rw [if_neg h1] at h; cases h
theorem atI_get {α : Type} {xs : List α} {i : Int} {v : α} (h : atI xs i = some v) : ∃ j, seqIndex? i xs.length = some j ∧ xs[j]? = some v ∧ j < xs.length ∧ -(xs.length : Int) ≤ i ∧ i < xs.length := by
  unfold atI at h
  cases e : ixN xs.length i with
  | none => rw [e] at h; cases h
  | some j =>
    rw [e] at h
    obtain ⟨h1, h2, h3, h4⟩ := ixN_seq e
    exact ⟨j, h1, h, h2, h3, h4⟩
theorem atI_nat {α : Type} {xs : List α} {j : Nat} {v : α} (h : xs[j]? = some v) : atI xs (j : Int) = some v := by
  have hj : j < xs.length := (List.getElem?_eq_some_iff.mp h).1
  have e : ixN xs.length (j : Int) = some j := by
    unfold ixN
    rw [if_pos (by omega), if_pos (by omega)]; simp
  unfold atI; rw [e]; exact h
theorem atI_last {α : Type} (xs : List α) (v : α) : atI (xs ++ [v]) (-1) = some v := by
  have hl : (xs ++ [v]).length = xs.length + 1 := by simp
  have e : ixN (xs ++ [v]).length (-1) = some xs.length := by
    unfold ixN
    rw [hl, if_neg (by decide), if_pos (by omega)]
    congr 1
    omega
  unfold atI
  rw [e]
  show (xs ++ [v])[xs.length]? = some v
  simp
def PlainIx (b : Expr) : Prop := ∀ o i, subscripted b false o i = operate [o, i] (getItem o i)
def IxR (X : Cx) (r : R2) : Prop :=
  ∀ (value slice : Expr) (pins : List (Addr × Obj)) (s : Shared) (σ : St) (H : Hp) (x y : V) (v u : Value) (Q : VK), Inv X pins σ H s → RelV x v → RelV y u → r x y H Q →
    subscripted slice false v u = operate [v, u] (getItem v u) → wpAny (model X.prog X.w) X.A (subscriptTail value slice v u) (EP X pins σ Q) X.xe s
def MtR (X : Cx) (id : String) (r : V → List V → Hp → VK → Prop) : Prop :=
  ∀ (pins : List (Addr × Obj)) (s : Shared) (σ : St) (H : Hp) (x : V) (xs : List V) (v : Value) (us : List Value) (Q : VK), Inv X pins σ H s → RelV x v → Vals xs us → r x xs H Q →
    wpAny (model X.prog X.w) X.A (call (.builtin id) (v :: us)) (EP X pins σ Q) X.xe s
section
variable {X : Cx} {a b : Expr} {ta tb : TE} {pos : Pos}
theorem pe_ix {r : R2} (hr : IxR X r) (ha : PE X a ta) (hb : PE X b tb) (hs : PlainIx b) : PE X (.Subscript a b pos) (tOp r ta tb) := by
  intro pins s σ H Q I h
  exact Subscript_ (binT ha hb I h fun v u s2 x y H2 I2 rx ry q => hr a b pins s2 σ H2 x y v u Q I2 rx ry q (hs _ _))
def rIxL (K : PySem.W.Frag) : R2 := fun x y H Q => ∃ p xs i v, x = .ref p ∧ y = .int i ∧ SqL K H p xs ∧ atI xs i = some v ∧ Q v H
def rIxT (K : PySem.W.Frag) : R2 := fun x y H Q => ∃ p xs i v, x = .ref p ∧ y = .int i ∧ SqT K H p xs ∧ atI xs i = some v ∧ Q v H
theorem ix_list : IxR X (rIxL X.K) := by
  intro value slice pins s σ H x y v u Q I rx ry h hs
  obtain ⟨p, xs, i, z, rfl, rfl, hq, he, q⟩ := h
  cases rx
  obtain ⟨t, rfl⟩ := ry
  obtain ⟨its, r, pl, hz⟩ := I.list hq
  obtain ⟨j, h1, h2, h3, h4, h5⟩ := atI_get he
  obtain ⟨w, ew, rw'⟩ := r.get h2
  have hl := r.length
  have hn := line63
  have fin : EP X pins σ Q w s := ⟨z, H, I, rw', q⟩
  by_cases h0 : 0 ≤ i
  · have hj : i.toNat = j := by
      rw [seqIndex_of h0 h5] at h1
      exact Option.some.inj h1
    exact item_listR pl.isList h0 (by omega) (by rw [hj]; simpa using ew) fin hs
  · have hj : (i + (its.toArray.size : Int)).toNat = j := by
      rw [seqIndex_neg (by omega) h4] at h1
      rw [List.size_toArray, ← hl]
      exact Option.some.inj h1
    exact subscriptTail_builtinR (x := w) pl.isList.typeIs slot_list_getitem.lookup
      (wpAny_getItem_list_neg (Q := fun r s' => r = w ∧ EP X pins σ Q r s') pl.isList (by omega) (by rw [List.size_toArray] <;> omega) (by omega) (by rw [hj]; simpa using ew) ⟨rfl, fin⟩) hs
theorem ix_tup : IxR X (rIxT X.K) := by
  intro value slice pins s σ H x y v u Q I rx ry h hs
  obtain ⟨p, xs, i, z, rfl, rfl, hq, he, q⟩ := h
  cases rx
  obtain ⟨t, rfl⟩ := ry
  obtain ⟨its, r, pl, hz⟩ := I.tuple hq
  obtain ⟨j, h1, h2, h3, h4, h5⟩ := atI_get he
  obtain ⟨w, ew, rw'⟩ := r.get h2
  have hl := r.length
  have hn := line63
  have fin : EP X pins σ Q w s := ⟨z, H, I, rw', q⟩
  exact subscriptTail_builtinR (x := w) pl.typeIs slot_tuple_getitem.lookup
    (getItem_tuple (j := j) (Q := fun r s' => r = w ∧ EP X pins σ Q r s') pl (by omega) (by omega) (by rw [List.size_toArray, ← hl]; exact h1) (by simpa using ew) ⟨rfl, fin⟩) hs
theorem mapSeq_set (its : List Value) (n j : Nat) (u : Value) : Obj.mapSeq (·.setIfInBounds j u) { cls := .type "list", data := .seq its.toArray n } = { cls := .type "list", data := .seq (its.set j u).toArray n } := by
  simp [Obj.mapSeq]
theorem Inv.lst {pins : List (Addr × Obj)} {σ : St} {H : Hp} {s : Shared} {p : Addr} {xs : List V} (I : Inv X pins σ H s) (h : H p = some (.lst xs)) :
    ∃ (its : List Value) (n : Nat), Vals xs its ∧ s.heap.get? p = some { cls := .type "list", data := .seq its.toArray n } ∧ xs.length ≤ sizeLine := by
  obtain ⟨z, its, n, r, e⟩ := I.hok p _ h
  exact ⟨its, n, r, e, z⟩
theorem Inv.lstUpd {pins : List (Addr × Obj)} {σ : St} {H : Hp} {s : Shared} {p : Addr} {xs ys : List V} {its its' : List Value} {n n' : Nat} {f : Obj → Obj} (I : Inv X pins σ H s) (h : H p = some (.lst xs))
    (ho : s.heap.get? p = some { cls := .type "list", data := .seq its.toArray n }) (hf : f { cls := .type "list", data := .seq its.toArray n } = { cls := .type "list", data := .seq its'.toArray n' }) (r : Vals ys its') (hz : ys.length ≤ sizeLine) (t : Nat) :
    Inv X pins σ (upd H p (.lst ys)) { s with heap := s.heap.update p f, toks := t } := by
  have e : (s.heap.update p f).get? p = some { cls := .type "list", data := .seq its'.toArray n' } := by
    rw [Heap.get?_update_self f ho (by rw [hf] <;> rfl), hf]
  refine I.write (x := p) (e := p) (by rw [h]; trivial) (.inl rfl) (fun b u hb q => (Heap.get?_update_other _ _ (Ne.symm hb)).trans q) ⟨_, e⟩ ?_
  exact ⟨hz, its', n', r, e⟩
def rSetL : V → V → V → Hp → (Hp → Prop) → Prop := fun o i v H Q => ∃ p xs k j, o = .ref p ∧ i = .int k ∧ H p = some (.lst xs) ∧ ixN xs.length k = some j ∧ Q (upd H p (.lst (xs.set j v)))
theorem set_list : PSet X rSetL := by
  intro pins s σ H o i v ov iv u Q I ro ri rv h
  obtain ⟨p, xs, k, j, rfl, rfl, hp, hj, q⟩ := h
  cases ro
  obtain ⟨t, rfl⟩ := ri
  obtain ⟨its, n, r, ho, hz⟩ := I.lst hp
  obtain ⟨h1, h2, h3, h4⟩ := ixN_seq hj
  have hl := r.length
  have hn := line63
  have I' : Inv X pins σ (upd H p (.lst (xs.set j v))) { s with heap := s.heap.update p (Obj.mapSeq (·.setIfInBounds j u)) } :=
    I.lstUpd hp ho (mapSeq_set its n j u) (r.set rv j) (by rw [List.length_set]; exact hz) s.toks
  by_cases h0 : 0 ≤ k
  · have hk : k.toNat = j := by
      rw [seqIndex_of h0 h4] at h1
      exact Option.some.inj h1
    exact PySem.W.ki_setAt ho h0 (by omega) (by rw [List.size_toArray, ← hl]; exact h4) (by rw [hk]; exact ⟨_, I', q⟩)
  · have hk : (k + (its.toArray.size : Int)).toNat = j := by
      rw [seqIndex_neg (by omega) h3] at h1
      rw [List.size_toArray, ← hl]
      exact Option.some.inj h1
    exact PySem.W.ki_setBack ho (by omega) (by rw [List.size_toArray, ← hl]; exact h3) (by omega) (by rw [hk]; exact ⟨_, I', q⟩)
theorem slice_bounds (lo hi : Option Int) (n : Nat) : (sliceBounds lo hi none n).1 = ((HT.sIx n 0 lo : Nat) : Int) ∧ (sliceBounds lo hi none n).2.1 = ((HT.sIx n n hi : Nat) : Int) ∧ (sliceBounds lo hi none n).2.2 = 1 := by
  refine ⟨?_, ?_, rfl⟩
  · cases lo with
    | none => simp [sliceBounds, HT.sIx]
    | some i =>
      simp only [sliceBounds, HT.sIx, Option.getD_none, show (1 : Int) > 0 by decide, if_true]
      by_cases h : i < 0
      · simp only [h, if_true] <;> omega
      · simp only [h, if_false] <;> omega
  · cases hi with
    | none => simp [sliceBounds, HT.sIx]
    | some i =>
      simp only [sliceBounds, HT.sIx, Option.getD_none, show (1 : Int) > 0 by decide, if_true]
      by_cases h : i < 0
      · simp only [h, if_true] <;> omega
      · simp only [h, if_false] <;> omega
theorem slicePick_cut (its : List Value) (lo hi : Option Int) : slicePick its.toArray lo hi none = ((its.drop (HT.sIx its.length 0 lo)).take (HT.sIx its.length its.length hi - HT.sIx its.length 0 lo)).toArray := by
  obtain ⟨h1, h2, h3⟩ := slice_bounds lo hi its.toArray.size
  unfold slicePick
  rw [h1, h2, h3]
  simp only [sliceRange_one, pick_run, List.size_toArray] <;> rfl
def rSlL (K : PySem.W.Frag) : V → Option Int → Option Int → Hp → VK → Prop := fun x lo hi H Q => ∃ a xs, x = .ref a ∧ SqL K H a xs ∧ ∀ p, H p = none → Q (.ref p) (upd H p (.lst (cutV xs lo hi)))
theorem sl_list : SlR X (rSlL X.K) := by
  intro pins s σ H x v vl vu lo hi sl Q I rx hs pl pu h
  obtain ⟨a, xs, rfl, hx, q⟩ := h
  cases rx
  obtain ⟨its, r, ht, hz⟩ := I.list hx
  have hlen := r.length
  refine ⟨"list", _, slot_list_getitem.lookup, ht.isList.typeIs, ?_⟩
  refine wpAny_getItem_list_slice ht.isList hs pl pu .none (by simp) ?_ (by rw [List.size_toArray] <;> omega)
  rw [slicePick_cut, ← hlen]
  refine ⟨.ref s.heap.objs.size, _, I.laid (t' := s.toks) (o := .lst (cutV xs lo hi)) (fun b ob q => Heap.get?_push_of_some _ q) (Nat.le_refl _) ?_, rfl, q _ (I.hok.fresh (Nat.le_refl _))⟩
  exact ⟨Nat.le_trans (cutV_length xs lo hi) hz, _, 0, (r.drop (HT.sIx xs.length 0 lo)).take (HT.sIx xs.length xs.length hi - HT.sIx xs.length 0 lo), Heap.get?_push_size _ rfl⟩
theorem call_len_seq : CallR X (.builtin "len") (fun xs H Q => ∃ p ys, xs = [.ref p] ∧ (SqL X.K H p ys ∨ SqT X.K H p ys) ∧ Q (.int ys.length) H) := by
  intro pins s σ H xs us Q I r h
  obtain ⟨p, ys, rfl, hq, q⟩ := h
  obtain ⟨u, rfl, rx⟩ := vals1 r
  cases rx
  have hn := line63
  rcases hq with hq | hq
  · obtain ⟨its, r', pl, hz⟩ := I.list hq
    have hlen := r'.length
    exact Calls.call_len_list pl.isList (by simp only [List.size_toArray] <;> omega) ⟨.int ys.length, H, I.tok _, ⟨s.toks + 1, by rw [List.size_toArray, hlen]⟩, q⟩
  · obtain ⟨its, r', pl, hz⟩ := I.tuple hq
    have hlen := r'.length
    exact len_tuple pl (by simp only [List.size_toArray] <;> omega) ⟨.int ys.length, H, I.tok _, ⟨s.toks + 1, by rw [List.size_toArray, hlen]⟩, q⟩
theorem call_list_of : CallR X (.type "list") (fun xs H Q => ∃ p ys, xs = [.ref p] ∧ (SqL X.K H p ys ∨ SqT X.K H p ys) ∧ ∀ l, H l = none → Q (.ref l) (upd H l (.lst ys))) := by
  intro pins s σ H xs us Q I r h
  obtain ⟨p, ys, rfl, hq, q⟩ := h
  obtain ⟨u, rfl, rx⟩ := vals1 r
  cases rx
  have fin : ∀ (its : List Value), Vals ys its → ys.length ≤ sizeLine → ∀ (h' : Heap) (c' : Nat), (∀ b o', s.heap.get? b = some o' → h'.get? b = some o') →
      h'.get? s.heap.objs.size = some { cls := .type "list", dict := none, data := .seq its.toArray c', slots := #[] } → EP X pins σ Q (.ref s.heap.objs.size) { s with heap := h' } := fun its r' hz h' c' kp e =>
    ⟨.ref s.heap.objs.size, _, I.laid (t' := s.toks) kp (Nat.le_refl _) (show ObjOk X.prog X.w _ h' _ (.lst ys) from ⟨hz, its, c', r', e⟩), rfl, q _ (I.hok.fresh (Nat.le_refl _))⟩
  rcases hq with hq | hq
  · obtain ⟨its, r', pl, hz⟩ := I.list hq
    have hlen := r'.length
    obtain ⟨o, ho, hc, n, hd⟩ := pl.isList
    exact call_list_seq p (.inl rfl) ho hc hd (fun h' c' kp e => fin its r' hz h' c' kp e) (by simp only [List.size_toArray] <;> omega)
  · obtain ⟨its, r', pl, hz⟩ := I.tuple hq
    have hlen := r'.length
    obtain ⟨o, ho, hc, n, hd⟩ := pl
    exact call_list_seq p (.inr rfl) ho hc hd (fun h' c' kp e => fin its r' hz h' c' kp e) (by simp only [List.size_toArray] <;> omega)
def tyV (K : PySem.W.Frag) (T : String) (x : V) (H : Hp) : Prop := match x with
  | .str _ => T = "str"
  | .int _ => T = "int"
  | .ref p => (T = "list" ∧ ∃ xs, SqL K H p xs) ∨ (T = "tuple" ∧ ∃ o, K.lookup p = some o ∧ o.cls = .type "tuple" ∧ o.dict = none) ∨
      (T = "dict" ∧ ((∃ kvs, H p = some (.dK kvs)) ∨ ∃ kvs, H p = some (.dT kvs))) ∨ (T = "set" ∧ ∃ S n, H p = some (.set S n))
  | _ => False
theorem tyV_is {pins : List (Addr × Obj)} {σ : St} {H : Hp} {s : Shared} {T : String} {x : V} {v : Value} (I : Inv X pins σ H s) (r : RelV x v) (ty : tyV X.K T x H) :
    s.TypeIs v T ∧ ∀ a, v = .ref a → ∃ ob, s.heap.get? a = some ob ∧ ob.dict = none := by
  cases x with
  | str z =>
    obtain ⟨t, rfl⟩ := r
    cases (show T = "str" from ty)
    exact ⟨typeIs_str s z t, fun _ e => nomatch e⟩
  | int i =>
    obtain ⟨t, rfl⟩ := r
    cases (show T = "int" from ty)
    exact ⟨typeIs_int s i t, fun _ e => nomatch e⟩
  | ref p =>
    cases r
    rcases ty with ⟨rfl, xs, hq⟩ | ⟨rfl, o, hk, hc, hd⟩ | ⟨rfl, hk⟩ | ⟨rfl, S, n, hk⟩
    · obtain ⟨its, _, pl, _⟩ := I.list hq
      refine ⟨pl.isList.typeIs, fun a e => ?_⟩
      cases e
      obtain ⟨o, n, e, c, hd, _⟩ := pl
      exact ⟨o, e, hd⟩
    · refine ⟨⟨o, I.kIn p o hk, hc⟩, fun a e => ?_⟩
      cases e
      exact ⟨o, I.kIn _ o hk, hd⟩
    · have z : ∃ o, s.heap.get? p = some o ∧ o.ExactDict := by
        rcases hk with ⟨kvs, hk⟩ | ⟨kvs, hk⟩
        · obtain ⟨_, _, _, _, o, _, _, e, ex, _⟩ := I.hok p _ hk
          exact ⟨o, e, ex⟩
        · obtain ⟨_, _, _, _, o, _, _, e, ex, _⟩ := I.hok p _ hk
          exact ⟨o, e, ex⟩
      obtain ⟨o, e, ex⟩ := z
      refine ⟨⟨o, e, ex.1⟩, fun a e2 => ?_⟩
      cases e2
      exact ⟨o, e, ex.2.1⟩
    · obtain ⟨o, _, _, _, e, ex, _⟩ := I.hok p _ hk
      refine ⟨⟨o, e, ex.1⟩, fun a e2 => ?_⟩
      cases e2
      exact ⟨o, e, ex.2.1⟩
  | _ => exact False.elim ty
def tBM0 (K : PySem.W.Frag) (T : String) (r : V → List V → Hp → VK → Prop) (to : TE) : TE := fun σ H Q => to σ H fun x H1 => tyV K T x H1 ∧ r x [] H1 Q
def tBM (K : PySem.W.Frag) (T : String) (r : V → List V → Hp → VK → Prop) (to : TE) (t : TA) : TE := fun σ H Q => to σ H fun x H1 => tyV K T x H1 ∧ t σ H1 fun xs H2 => r x xs H2 Q
variable {o e : Expr} {es : List Expr} {to : TE} {t : TA} {name : Str} {apos cpos : Pos} {T id : String} {r : V → List V → Hp → VK → Prop}
theorem pe_bm0 (pa : PlainAttrs T) (slot : Slot T name id) (hty : typeOf (.builtin id) = pure (.type "method_descriptor")) (hm : MtR X id r) (ho : PE X o to)
    (hbase : attributeBase o name X.env (eval o X.env) = eval o X.env := by rfl) (hline : (apos.endLine == cpos.line) = true := by rfl) : PE X (.Call (.Attribute o name apos) [] [] cpos) (tBM0 X.K T r to) := by
  intro pins s σ H Q I h
  refine wpAny_Call_method0_late hbase hline (thn (ho pins s σ H _ I h) fun v s1 ⟨x, H1, I1, r1, ty, q1⟩ => ?_)
  obtain ⟨h1, h2⟩ := tyV_is I1 r1 ty
  exact ⟨T, id, pa, slot, hty, h1, h2, Calls.callWith_builtin rfl (PySem.evalArgs_none (hm pins s1 σ H1 x [] v [] Q I1 r1 .nil q1))⟩
theorem pe_bm (pa : PlainAttrs T) (slot : Slot T name id) (hty : typeOf (.builtin id) = pure (.type "method_descriptor")) (hm : MtR X id r) (ho : PE X o to) (ha : PA X (e :: es) t)
    (hbase : attributeBase o name X.env (eval o X.env) = eval o X.env := by rfl)
    (hfew : ((backTo cpos (starEach (e :: es) X.env)).all (fun x => !x.1) && (backToKw cpos (keywordEach [] X.env)).all (fun x => x.1.isSome)
      && decide ((e :: es).length + ([] : List Keyword).length + (if ([] : List Keyword).isEmpty then 0 else 1) < 30)) = true := by rfl)
    (hline : (apos.endLine == cpos.line) = true := by rfl) (hs : starEach (e :: es) X.env = (false, eval e X.env) :: starEach es X.env := by rfl) (hplain : (backTo cpos (starEach es X.env)).any (·.1) = false := by rfl) :
    PE X (.Call (.Attribute o name apos) (e :: es) [] cpos) (tBM X.K T r to t) := by
  intro pins s σ H Q I h
  refine wpAny_Call_method_late hbase hfew hline rfl (thn (ho pins s σ H _ I h) fun v s1 ⟨x, H1, I1, r1, ty, q1⟩ => ?_)
  obtain ⟨h1, h2⟩ := tyV_is I1 r1 ty
  refine ⟨T, id, pa, slot, hty, h1, h2, ?_⟩
  have hA := ha cpos pins s1 σ H1 _ I1 q1
  rw [hs] at hA ⊢
  refine Calls.callWith_builtin (by show (false || (backTo cpos (starEach es X.env)).any (·.1)) = false; rw [hplain] <;> rfl) (Calls.evalArgs_plain ?_)
  exact thn hA fun us s2 ⟨vs, H2, I2, r2, q2⟩ => hm pins s2 σ H2 x vs v us Q I2 r1 r2 q2
end
end L2
namespace L2
open PySem PySem.Spec PyProof.Rows
def MtM (X : Cx) (id : String) (r : V → List V → Hp → VK → Prop) : Prop :=
  ∀ (pins : List (Addr × Obj)) (s : Shared) (σ : St) (H : Hp) (x : V) (xs : List V) (v : Value) (us : List Value) (Q : VK), Inv X pins σ H s → RelV x v → Vals xs us → r x xs H Q →
    wpAny (model X.prog X.w) X.A (call (.builtin id) (v :: us)) (EP X pins σ Q) X.xe s
theorem Vals.one : ∀ {x : V} {us : List Value}, Vals [x] us → ∃ u, us = [u] ∧ RelV x u
  | _, _, .cons r .nil => ⟨_, rfl, r⟩
theorem Vals.two : ∀ {x y : V} {us : List Value}, Vals [x, y] us → ∃ u v, us = [u, v] ∧ RelV x u ∧ RelV y v
  | _, _, _, .cons r (.cons q .nil) => ⟨_, _, rfl, r, q⟩
theorem Vals.zero : ∀ {us : List Value}, Vals [] us → us = []
  | _, .nil => rfl
theorem Vals.dropLast {xs : List V} {us : List Value} (h : Vals xs us) : Vals xs.dropLast us.dropLast := by
  induction h with
  | nil => exact .nil
  | cons r t ih =>
    cases t with
    | nil => exact .nil
    | cons q t' => exact .cons r ih
theorem Vals.rep {xs : List V} {us : List Value} (h : Vals xs us) : ∀ k : Nat, Vals (List.replicate k xs).flatten (List.replicate k us).flatten
  | 0 => .nil
  | k + 1 => by
    rw [List.replicate_succ, List.replicate_succ, List.flatten_cons, List.flatten_cons]
    exact Vals.append h (Vals.rep h k)
theorem erase_last {α : Type} (l : List α) : l.eraseIdx (l.length - 1) = l.dropLast := by
  induction l with
  | nil => rfl
  | cons a r ih =>
    cases r with
    | nil => rfl
    | cons b r =>
      have e : (a :: b :: r).length - 1 = ((b :: r).length - 1) + 1 := by
        have h1 : (a :: b :: r).length = r.length + 2 := rfl
        have h2 : (b :: r).length = r.length + 1 := rfl
        omega
      rw [e, List.eraseIdx_cons_succ, ih]
      all_goals rfl
theorem foldl_rep (its : List Value) : ∀ (k : Nat) (acc : List Value),
    List.foldl (fun x1 x2 => x1 ++ x2) acc.toArray (List.replicate k its.toArray) = (acc ++ (List.replicate k its).flatten).toArray
  | 0, acc => by simp
  | k + 1, acc => by
    have e : acc.toArray ++ its.toArray = (acc ++ its).toArray := by simp
    have e2 : (acc ++ its) ++ (List.replicate k its).flatten = acc ++ (List.replicate (k + 1) its).flatten := by
      rw [List.replicate_succ, List.flatten_cons, List.append_assoc]
    rw [← e2, ← foldl_rep its k (acc ++ its), ← e, List.replicate_succ, List.foldl_cons]
section
variable {X : Cx} {pins : List (Addr × Obj)} {σ : St} {H : Hp} {s : Shared} {l b : Addr} {xs ys zs : List V}
theorem Inv.lset {its its' : List Value} {n : Nat} {f : Array Value → Array Value} {t' : Nat} (I : Inv X pins σ H s) (hH : H l = some (.lst xs))
    (e : s.heap.get? l = some { cls := .type "list", data := .seq its.toArray n }) (hf : f its.toArray = its'.toArray) (hv : Vals ys its') (hz : ys.length ≤ sizeLine) :
    Inv X pins σ (upd H l (.lst ys)) { s with heap := s.heap.update l (Obj.mapSeq f), toks := t' } := by
  have q := PySem.IsL.update e f
  rw [hf] at q
  refine I.write (x := l) (e := l) (by rw [hH]; exact trivial) (.inl rfl) (fun b' u hb hu => (Heap.get?_update_other s.heap (Obj.mapSeq f) (Ne.symm hb)).trans hu) ⟨_, q⟩ ?_
  exact ⟨hz, its', _, hv, q⟩
theorem Inv.lnew {its : List Value} {t' : Nat} (I : Inv X pins σ H s) (hv : Vals ys its) (hz : ys.length ≤ sizeLine) :
    Inv X pins σ (upd H s.heap.objs.size (.lst ys)) { s with heap := s.heap.push { cls := .type "list", data := .seq its.toArray }, toks := t' } :=
  I.laid (fun _ _ q => Heap.get?_push_of_some _ q) (Nat.le_refl _) ⟨hz, its, 0, hv, Heap.get?_push_size _ rfl⟩
theorem Inv.fresh (I : Inv X pins σ H s) : H s.heap.objs.size = none := I.hok.fresh (Nat.le_refl _)
theorem Inv.lstM (I : Inv X pins σ H s) (hH : H l = some (.lst xs)) : xs.length ≤ sizeLine ∧ ∃ (its : List Value) (n : Nat), Vals xs its ∧ xs.length = its.length ∧ s.heap.get? l = some { cls := .type "list", data := .seq its.toArray n } := by
  obtain ⟨z, its, n, r, e⟩ := I.hok l _ hH
  exact ⟨z, its, n, r, r.length, e⟩
theorem notLongL {n : Nat} (h : n ≤ sizeLine) : Builtin.List.listTooLong n = false := by
  unfold Builtin.List.listTooLong
  exact decide_eq_false (by omega)
end
section
variable {X : Cx}
def rAppend : V → List V → Hp → VK → Prop := fun x vs H Q => ∃ l xs y, x = .ref l ∧ vs = [y] ∧ H l = some (.lst xs) ∧ xs.length < sizeLine ∧ Q .non (upd H l (.lst (xs ++ [y])))
theorem mt_append : MtM X "list.append" rAppend := by
  intro pins s σ H x vs v us Q I rx rv h
  obtain ⟨l, xs, y, rfl, rfl, hH, hz, q⟩ := h
  cases rx
  obtain ⟨u, rfl, ru⟩ := rv.one
  obtain ⟨z, its, n, r, hl, e⟩ := I.lstM hH
  refine call_meets F.slot_list_append ⟨_, e, rfl⟩ F.entry_list_append (F.args_list_append_2 _ _) (PySem.list_append l its.toArray n u (by rw [List.size_toArray]; omega)) ⟨e, ?_⟩
  refine ⟨.non, _, I.lset (its' := its ++ [u]) hH e (by simp) (r.append (.cons ru .nil)) ?_, rfl, q⟩
  rw [List.length_append, List.length_singleton]
  omega
def rExtend : V → List V → Hp → VK → Prop := fun x vs H Q => ∃ l b xs zs, x = .ref l ∧ vs = [.ref b] ∧ H l = some (.lst xs) ∧ H b = some (.lst zs) ∧ xs.length + zs.length ≤ sizeLine ∧ Q .non (upd H l (.lst (xs ++ zs)))
theorem mt_extend : MtM X "list.extend" rExtend := by
  intro pins s σ H x vs v us Q I rx rv h
  obtain ⟨l, b, xs, zs, rfl, rfl, hH, hB, hz, q⟩ := h
  cases rx
  obtain ⟨u, rfl, ru⟩ := rv.one
  cases ru
  obtain ⟨z, its, n, r, hl, e⟩ := I.lstM hH
  obtain ⟨z2, its2, n2, r2, hl2, e2⟩ := I.lstM hB
  have hsz : its.toArray.size + its2.toArray.size ≤ sizeLine := by rw [List.size_toArray, List.size_toArray]; omega
  have hlong : ¬ (!its.toArray.isEmpty && Builtin.List.listTooLong (its.toArray.size + its2.toArray.size)) = true := by
    rw [notLongL hsz, Bool.and_false]
    exact Bool.false_ne_true
  refine call_meets F.slot_list_extend ⟨_, e, rfl⟩ F.entry_list_extend (F.args_list_extend_2 _ _)
    (AutoSeq1.list_extend_list_list_0 l its.toArray n b its2.toArray n2 hlong (by rw [List.size_toArray]; omega) (by omega)) ⟨e, e2, ?_⟩
  refine ⟨.non, _, I.lset (its' := its ++ its2) hH e (by simp) (r.append r2) ?_, rfl, q⟩
  rw [List.length_append]
  omega
def rPop : V → List V → Hp → VK → Prop := fun x vs H Q => ∃ l xs y, x = .ref l ∧ vs = [] ∧ H l = some (.lst xs) ∧ xs[xs.length - 1]? = some y ∧ Q y (upd H l (.lst xs.dropLast))
theorem mt_pop : MtM X "list.pop" rPop := by
  intro pins s σ H x vs v us Q I rx rv h
  obtain ⟨l, xs, y, rfl, rfl, hH, hy, q⟩ := h
  cases rx
  have hus := rv.zero
  subst hus
  obtain ⟨z, its, n, r, hl, e⟩ := I.lstM hH
  obtain ⟨u, hu, ru⟩ := r.get hy
  have hy' : its.toArray[its.toArray.size - 1]? = some u := by
    show its.toArray[its.length - 1]? = some u
    rw [← Array.getElem?_toList, ← hl]
    exact hu
  refine call_meets F.slot_list_pop ⟨_, e, rfl⟩ F.entry_list_pop (F.args_list_pop_1 _) (MeetsSeq.list_pop_last l its.toArray n u hy' (by rw [List.size_toArray]; omega)) ⟨e, ?_⟩
  refine ⟨y, _, I.lset (its' := its.dropLast) hH e ?_ r.dropLast ?_, ru, q⟩
  · show its.toArray.eraseIdxIfInBounds (its.toArray.size - 1) = its.dropLast.toArray
    rw [List.size_toArray, List.eraseIdxIfInBounds_toArray, erase_last]
  · rw [List.length_dropLast]
    omega
def rCat : R2 := fun x y H Q => ∃ l b xs zs, x = .ref l ∧ y = .ref b ∧ H l = some (.lst xs) ∧ H b = some (.lst zs) ∧ xs.length + zs.length ≤ sizeLine ∧ ∀ p, H p = none → Q (.ref p) (upd H p (.lst (xs ++ zs)))
theorem op_cat : OpR X (binaryOp .Add) rCat := by
  intro pins s σ H x y v u Q I rx ry h
  obtain ⟨l, b, xs, zs, rfl, rfl, hH, hB, hz, q⟩ := h
  cases rx
  cases ry
  obtain ⟨z, its, n, r, hl, e⟩ := I.lstM hH
  obtain ⟨z2, its2, n2, r2, hl2, e2⟩ := I.lstM hB
  refine PySem.P.add_list e e2 ?_ (by rw [List.size_toArray, List.size_toArray]; omega)
  have ea : its.toArray ++ its2.toArray = (its ++ its2).toArray := by simp
  rw [ea]
  exact ⟨.ref _, _, I.lnew (t' := s.toks) (r.append r2) (by rw [List.length_append]; omega), rfl, q _ I.fresh⟩
def rRep : R2 := fun x y H Q => ∃ l k xs, x = .ref l ∧ y = .int k ∧ H l = some (.lst xs) ∧ -(2 ^ 63) ≤ k ∧ k < 2 ^ 63 ∧ xs.length * k.toNat ≤ sizeLine ∧
  ∀ p, H p = none → Q (.ref p) (upd H p (.lst (List.replicate k.toNat xs).flatten))
theorem len_rep {α : Type} (xs : List α) (k : Nat) : (List.replicate k xs).flatten.length = k * xs.length := by
  induction k with
  | zero => simp
  | succ k ih => rw [List.replicate_succ, List.flatten_cons, List.length_append, ih, Nat.succ_mul, Nat.add_comm]
theorem op_rep : OpR X (binaryOp .Mult) rRep := by
  intro pins s σ H x y v u Q I rx ry h
  obtain ⟨l, k, xs, rfl, rfl, hH, h1, h2, hz, q⟩ := h
  cases rx
  obtain ⟨t, rfl⟩ := ry
  obtain ⟨z, its, n, r, hl, e⟩ := I.lstM hH
  have hlen : its.toArray.size * k.toNat ≤ sizeLine := by rw [List.size_toArray, ← hl]; exact hz
  have hcap : ¬ its.toArray.size * k.toNat > (2 ^ 63 - 1) / 8 := by
    have : (sizeLine : Nat) ≤ (2 ^ 63 - 1) / 8 := by decide
    omega
  have hfit : ¬ (!Builtin.List.listFitsIndex k) = true := by
    rw [fitsIndex_both h1 h2]
    exact Bool.false_ne_true
  have hlong : ¬ Builtin.List.listTooLong (its.toArray.size * k.toNat) = true := by
    rw [notLongL hlen]
    exact Bool.false_ne_true
  have hnew : List.foldl (fun x1 x2 => x1 ++ x2) #[] (List.replicate (if its.toArray.isEmpty = true then 0 else k.toNat) its.toArray) = (List.replicate k.toNat its).flatten.toArray := by
    have f0 : ∀ m : Nat, List.foldl (fun x1 x2 => x1 ++ x2) #[] (List.replicate m its.toArray) = (List.replicate m its).flatten.toArray := fun m => by
      have := foldl_rep its m []
      rw [List.nil_append] at this
      exact this
    rw [f0]
    cases its with
    | nil => simp
    | cons a r' => rw [if_neg (by simp)]
  refine wpAny_binaryOp_repeat_ref (T := "list") (U := "int") (by decide) ⟨_, e, rfl⟩ (fun s' => typeIs_int s' k t) noFill_list_mul F.fills_int_mul F.slot_int_rmul repeat_list F.slot_int_index.lookup
    (call_meets F.slot_int_rmul (typeIs_int s k t) F.entry_int_rmul (F.args_int_rmul_2 _ _) (int___rmul___int_list k t l its.toArray n)
      ⟨e, rfl, ⟨_, e, rfl⟩, call_meets F.slot_list_mul ⟨_, e, rfl⟩ F.entry_list_mul (F.args_list_mul_2 _ _) (AutoListH.list___mul___list_int_3 l its.toArray n k t hfit hcap hlong) ⟨e, ?_⟩⟩)
  rw [hnew]
  exact ⟨.ref _, _, I.lnew (t' := s.toks) (r.rep k.toNat) (by rw [len_rep, Nat.mul_comm]; exact hz), rfl, q _ I.fresh⟩
end
section
variable {prog : Program} {w : World} {A : Around} {E : Value → Shared → Prop} {s : Shared}
end
section
variable {X : Cx}
end
end L2
namespace L2
open PySem PySem.Spec PyProof.Rows
theorem Vals.ints : ∀ {ns : List Int} {us : List Value}, Vals (ns.map V.int) us → IntsAre us ns
  | [], us, h => by
    rw [List.map_nil] at h
    cases h
    exact IntsAre.nil
  | n :: ns, us, h => by
    rw [List.map_cons] at h
    cases h with
    | cons r t =>
      obtain ⟨k, rfl⟩ := r
      exact IntsAre.cons n k (Vals.ints t)
theorem Vals.ref1 {a : Addr} {us : List Value} (r : Vals [V.ref a] us) : us = [Value.ref a] := by
  cases r with
  | cons r t =>
    cases t
    cases r
    rfl
section
variable {prog : Program} {w : World} {A : Around} {E : Value → Shared → Prop} {s : Shared} {l : Addr} {its : List Value} {ns : List Int} {Q : Value → Shared → Prop}
theorem sum_raw (hh : A.handled = none) (hl : s.heap.IsList l its.toArray) (hi : IntsAre its ns)
    (h : ∀ h' tk t', (∀ b o, s.heap.get? b = some o → h'.get? b = some o) → Q (.int ns.sum t') { s with heap := h', toks := tk }) : wpAny (model prog w) A (call (.builtin "sum") [.ref l]) Q E s := by
  obtain ⟨xs, e⟩ := hi.allInts.items
  have hn : numsOf (intItems xs).toList = ns := by rw [← e]; exact hi.numsOf
  rw [nums_intItems] at hn
  rw [e] at hl
  refine PySem.sum_intListG hh hl fun h' tk t' hk => ?_
  have := h h' tk t' hk
  rw [preSum_eq, List.take_of_length_le (by simp), hn]; exact this
end
section
variable {X : Cx}
def rSum (K : PySem.W.Frag) : List V → Hp → VK → Prop := fun vs H Q => ∃ (a : Addr) (ns : List Int), vs = [V.ref a] ∧ SqL K H a (ns.map V.int) ∧ Q (.int ns.sum) H
theorem cr_sum (hc : X.calm = true) : CallR X (.builtin "sum") (rSum X.K) := by
  intro pins s σ H vs us Q I r h
  obtain ⟨a, ns, rfl, hs, q⟩ := h
  obtain ⟨its, rv, hl, _⟩ := I.list hs
  rw [Vals.ref1 r]
  exact sum_raw (I.ok.hd hc) hl.isList rv.ints fun h' tk t' hk => ⟨.int _, H, I.kept hk, ⟨_, rfl⟩, q⟩
end
section
variable {X : Cx}
end
section
variable {X : Cx}
end
section
variable {X : Cx}
end
section
variable {X : Cx} {pins : List (Addr × Obj)} {σ : St} {H : Hp} {s : Shared}
end
section
variable {X : Cx}
end
end L2
namespace L2
open PySem PySem.Spec PyProof.Rows
abbrev CellAt (h : Heap) (c : Addr) (v : Option Value) : Prop := h.IsCell c v
def relS (scope sc : Scope) : Scope :=
  { scope with names := scope.names.map fun (n, k) => if (k == .free && sc.kind == .function && sc.names.lookup n == some .cell) then (n, .cell) else (n, k) }
def cloFrom (cells : List (Str × Addr)) : List (Str × NameKind) → List (Str × Addr) → List (Str × Addr)
  | [], acc => acc
  | (n, k) :: r, acc => if k == .free then cloFrom cells r ((n, (cells.lookup n).getD 0) :: acc) else cloFrom cells r acc
theorem closure_loop (env : Env) (f : Str × NameKind → List (Str × Addr) → Sem (ForInStep (List (Str × Addr))))
    (hf : ∀ n k c, f (n, k) c = if k == .free then (do let a ← cellOf env n; pure (.yield ((n, a) :: c))) else pure (.yield c)) :
    ∀ (names : List (Str × NameKind)) (acc : List (Str × Addr)), (∀ y ∈ names, y.2 = .free → ∃ c, env.cells.lookup y.1 = some c) → forIn names acc f = pure (cloFrom env.cells names acc)
  | [], acc, _ => by rw [List.forIn_nil]; rfl
  | (n, k) :: r, acc, h => by
    rw [List.forIn_cons, hf]
    have ih := fun acc => closure_loop env f hf r acc fun y hy => h y (List.mem_cons_of_mem _ hy)
    unfold cloFrom
    by_cases hk : (k == NameKind.free) = true
    · rw [if_pos hk, if_pos hk]
      obtain ⟨c, hc⟩ := h (n, k) List.mem_cons_self (by simpa using hk)
      have e : cellOf env n = pure c := by unfold cellOf; rw [hc]
      rw [e]
      have e2 : (env.cells.lookup n).getD 0 = c := by rw [hc]; rfl
      rw [e2]
      exact ih _
    · rw [if_neg hk, if_neg hk]
      exact ih _
theorem closure_ok {scope : Scope} {env : Env} (h : ∀ y ∈ scope.names, y.2 = .free → ∃ c, env.cells.lookup y.1 = some c) : closureFor scope env = pure (cloFrom env.cells scope.names []) := by
  simp only [closureFor]
  rw [closure_loop env _ (fun n k c => rfl) scope.names [] h]
  rfl
theorem mem_lookup {α : Type} : ∀ {l : List (Str × α)} {n : Str} {c : α}, (n, c) ∈ l → ∃ c', l.lookup n = some c'
  | (k, v) :: r, n, c, h => by
    rw [List.lookup_cons]
    cases hb : n == k with
    | true => exact ⟨_, rfl⟩
    | false =>
      rcases List.mem_cons.mp h with e | h
      · cases e; simp at hb
      · exact mem_lookup h
theorem cloFrom_mem {cells : List (Str × Addr)} : ∀ {names : List (Str × NameKind)} {acc : List (Str × Addr)} {n : Str} {c : Addr}, (n, c) ∈ cloFrom cells names acc → (n, c) ∈ acc ∨ ((n, .free) ∈ names ∧ c = (cells.lookup n).getD 0)
  | [], _, _, _, h => .inl h
  | (m, k) :: r, acc, n, c, h => by
    unfold cloFrom at h
    split at h
    · rename_i hk
      have hk : k = .free := by simpa using hk
      rcases cloFrom_mem h with h | ⟨h1, h2⟩
      · rcases List.mem_cons.mp h with e | h
        · cases e; exact .inr ⟨hk ▸ List.mem_cons_self, rfl⟩
        · exact .inl h
      · exact .inr ⟨List.mem_cons_of_mem _ h1, h2⟩
    · rcases cloFrom_mem h with h | ⟨h1, h2⟩
      · exact .inl h
      · exact .inr ⟨List.mem_cons_of_mem _ h1, h2⟩
theorem cloFrom_acc {cells : List (Str × Addr)} : ∀ {names : List (Str × NameKind)} {acc : List (Str × Addr)} {p : Str × Addr}, p ∈ acc → p ∈ cloFrom cells names acc
  | [], _, _, h => h
  | (m, k) :: r, acc, p, h => by
    unfold cloFrom
    split
    · exact cloFrom_acc (List.mem_cons_of_mem _ h)
    · exact cloFrom_acc h
theorem cloFrom_has {cells : List (Str × Addr)} : ∀ {names : List (Str × NameKind)} {acc : List (Str × Addr)} {n : Str}, (n, .free) ∈ names → (n, (cells.lookup n).getD 0) ∈ cloFrom cells names acc
  | (m, k) :: r, acc, n, h => by
    unfold cloFrom
    rcases List.mem_cons.mp h with e | h
    · cases e
      exact cloFrom_acc List.mem_cons_self
    · split
      · exact cloFrom_has h
      · exact cloFrom_has h
theorem cells_mem : ∀ {names : List (Str × NameKind)} {h : Heap} {acc : List (Str × Addr)} {x : Str} {c : Addr}, (x, c) ∈ cellsFrom h.objs.size names acc →
    (x, c) ∈ acc ∨ ((x, .cell) ∈ names ∧ h.objs.size ≤ c ∧ CellAt (pushCells h names) c none)
  | [], _, _, _, _, h => .inl h
  | (n, k) :: r, h, acc, x, c, hm => by
    unfold cellsFrom at hm
    unfold pushCells
    split at hm
    · rename_i hk
      rw [if_pos hk]
      have hk : k = .cell := by simpa using hk
      rw [← Heap.size_push h { cls := .type "cell", data := .cell none }] at hm
      rcases cells_mem hm with hm | ⟨h1, h2, h3⟩
      · rcases List.mem_cons.mp hm with e | hm
        · cases e
          exact .inr ⟨hk ▸ List.mem_cons_self, Nat.le_refl _, _, pushCells_keeps r _ _ _ (Heap.get?_push_size _ rfl), rfl⟩
        · exact .inl hm
      · rw [Heap.size_push] at h2
        exact .inr ⟨List.mem_cons_of_mem _ h1, Nat.le_of_succ_le h2, h3⟩
    · rename_i hk
      rw [if_neg hk]
      rcases cells_mem hm with hm | ⟨h1, h2, h3⟩
      · exact .inl hm
      · exact .inr ⟨List.mem_cons_of_mem _ h1, h2, h3⟩
theorem cells_acc : ∀ {names : List (Str × NameKind)} {n : Nat} {acc : List (Str × Addr)} {p : Str × Addr}, p ∈ acc → p ∈ cellsFrom n names acc
  | [], _, _, _, h => h
  | (m, k) :: r, n, acc, p, h => by
    unfold cellsFrom
    split
    · exact cells_acc (List.mem_cons_of_mem _ h)
    · exact cells_acc h
theorem cells_has : ∀ {names : List (Str × NameKind)} {n : Nat} {acc : List (Str × Addr)} {x : Str}, (x, .cell) ∈ names → ∃ c, (x, c) ∈ cellsFrom n names acc
  | (m, k) :: r, n, acc, x, h => by
    unfold cellsFrom
    rcases List.mem_cons.mp h with e | h
    · cases e
      exact ⟨n, cells_acc List.mem_cons_self⟩
    · split
      · exact cells_has h
      · exact cells_has h
theorem cells_inj : ∀ {names : List (Str × NameKind)} {h : Heap} {acc : List (Str × Addr)} {x y : Str} {c : Addr}, (∀ p ∈ acc, p.2 < h.objs.size) → (∀ x y c, (x, c) ∈ acc → (y, c) ∈ acc → x = y) →
    (x, c) ∈ cellsFrom h.objs.size names acc → (y, c) ∈ cellsFrom h.objs.size names acc → x = y
  | [], _, _, _, _, _, _, hi, h1, h2 => hi _ _ _ h1 h2
  | (n, k) :: r, h, acc, x, y, c, hl, hi, h1, h2 => by
    unfold cellsFrom at h1 h2
    split at h1
    · rename_i hk
      rw [if_pos hk] at h2
      rw [← Heap.size_push h { cls := .type "cell", data := .cell none }] at h1 h2
      refine cells_inj (h := h.push _) (fun p hp => ?_) (fun x y c a b => ?_) h1 h2
      · rw [Heap.size_push]
        rcases List.mem_cons.mp hp with rfl | hp
        · exact Nat.lt_succ_self _
        · exact Nat.lt_succ_of_lt (hl p hp)
      · rcases List.mem_cons.mp a with e | a <;> rcases List.mem_cons.mp b with e' | b
        · cases e; cases e'; rfl
        · cases e; exact absurd (hl _ b) (Nat.lt_irrefl _)
        · cases e'; exact absurd (hl _ a) (Nat.lt_irrefl _)
        · exact hi _ _ _ a b
    · rename_i hk
      rw [if_neg hk] at h2
      exact cells_inj hl hi h1 h2
theorem newEnv_comp {M : Model} {A : Around} {E : Value → Shared → Prop} {s : Shared} {scope : Scope} {globals : Addr} {closure : List (Str × Addr)} {qual : Str} {func : Option Addr} {code : Value} {around : Env} {builtins : Addr} {Q : Env → Shared → Prop}
    (h : Q (newEnv scope s.heap.objs.size globals (cellsFrom (s.heap.objs.size + 1) scope.names closure) qual func code (some around) builtins)
      { s with heap := pushCells (s.heap.push { cls := .type "dict", data := .dict #[] }) scope.names }) :
    wpAny M A (newFunctionEnv scope globals closure [] qual func code (some around) builtins) Q E s := by
  simp only [newFunctionEnv, Option.isSome_some, if_true]
  refine wpAny_bind (wpAny_alloc ?_)
  refine wpAny_bind (wpAny_layCells _ (fun n k c => rfl) scope.names closure _ _ ?_)
  rw [show ({ s with heap := s.heap.push { cls := .type "dict", data := .dict #[] } } : Shared).heap.objs.size = s.heap.objs.size + 1 from Heap.size_push ..]
  rw [List.forIn_nil]
  exact wpAny_bind (wpAny_pure (wpAny_pure h))
theorem lookup_relS {sc : Scope} : ∀ {names : List (Str × NameKind)} {x : Str} {k : NameKind},
    (names.map fun (n, k) => if (k == NameKind.free && sc.kind == .function && sc.names.lookup n == some .cell) then (n, NameKind.cell) else (n, k)).lookup x = some k →
    ∃ k', names.lookup x = some k' ∧ (k = k' ∨ (k' = .free ∧ k = .cell))
  | [], _, _, h => by simp at h
  | (n, k₀) :: r, x, k, h => by
    have ih := @lookup_relS sc r x k
    have h' : List.lookup x ((if (k₀ == NameKind.free && sc.kind == .function && sc.names.lookup n == some .cell) = true then (n, NameKind.cell) else (n, k₀)) :: (r.map _)) = some k := h
    cases hx : x == n with
    | true =>
      simp only [List.lookup_cons, hx]
      by_cases hc : (k₀ == NameKind.free && sc.kind == .function && sc.names.lookup n == some .cell) = true
      · rw [if_pos hc] at h'
        simp only [List.lookup_cons, hx] at h'
        cases h'
        simp only [Bool.and_eq_true, beq_iff_eq] at hc
        exact ⟨k₀, rfl, .inr ⟨hc.1.1, rfl⟩⟩
      · rw [if_neg hc] at h'
        simp only [List.lookup_cons, hx] at h'
        cases h'
        exact ⟨_, rfl, .inl rfl⟩
    | false =>
      simp only [List.lookup_cons, hx]
      by_cases hc : (k₀ == NameKind.free && sc.kind == .function && sc.names.lookup n == some .cell) = true
      · rw [if_pos hc] at h'
        simp only [List.lookup_cons, hx] at h'
        exact ih h'
      · rw [if_neg hc] at h'
        simp only [List.lookup_cons, hx] at h'
        exact ih h'
structure BlkOk (N : List Str) (sc scope : Scope) (own : List (Str × Nat)) : Prop where
  kind : scope.kind = .function
  uniq : ∀ y ∈ scope.names, scope.names.lookup y.1 = some y.2
  ix : ∀ p ∈ own, N[p.2]? = some p.1
  free : ∀ y ∈ scope.names, y.2 = .free → sc.names.lookup y.1 = some .cell ∨ sc.names.lookup y.1 = some .free
  own : ∀ y ∈ scope.names, y.2 = .local ∨ y.2 = .cell → y.1 ∈ own.map (·.1) ∨ y.1 ∉ N
def wipe (σ : St) : List Nat → St
  | [] => σ
  | v :: vs => (wipe σ vs).set v none
theorem wipe_length (σ : St) : ∀ vs : List Nat, (wipe σ vs).length = σ.length
  | [] => rfl
  | v :: vs => by unfold wipe; rw [List.length_set, wipe_length σ vs]
theorem wipe_some {σ : St} {i : Nat} {x : V} : ∀ {vs : List Nat}, (wipe σ vs)[i]? = some (some x) → σ[i]? = some (some x) ∧ i ∉ vs
  | [], h => ⟨h, by simp⟩
  | v :: vs, h => by
    unfold wipe at h
    by_cases hi : v = i
    · subst hi
      by_cases hv : v < (wipe σ vs).length
      · rw [List.getElem?_set_self hv] at h; cases h
      · rw [List.getElem?_eq_none (by simpa using hv)] at h; cases h
    · rw [List.getElem?_set_ne hi] at h
      obtain ⟨h1, h2⟩ := wipe_some h
      exact ⟨h1, by simp only [List.mem_cons, not_or]; exact ⟨fun e => hi e.symm, h2⟩⟩
abbrev Cx.blk (X : Cx) (s : Shared) (H : Hp) (scope : Scope) (cenv : Env) (fp : List Addr) : Cx := { X with s_0 := s, H_0 := H, env := cenv, outer := X.stack, ex := fp, fn := fun x => scope.names.lookup x == some .cell, pn := [], xe := fun _ _ => False }
section
variable {X : Cx} {pins : List (Addr × Obj)} {σ : St} {H : Hp} {s : Shared}
theorem block_start {scope : Scope} {own : List (Str × Nat)} {fp : List Addr} (I : Inv X pins σ H s) (ok : BlkOk X.N X.env.scope scope own) (hN : X.N.Nodup) (hfp : ∀ b ∈ fp, FpOk X pins H b ∧ b < s.heap.objs.size) :
    Inv (X.blk s H scope (compEnvC scope (cellsFrom (s.heap.objs.size + 1) scope.names (cloFrom X.env.cells scope.names [])) s.heap.objs.size X.env) fp) [] (wipe σ (own.map (·.2))) H { s with heap := pushCells (s.heap.push { cls := .type "dict", data := .dict #[] }) scope.names } := by
  have hfree : ∀ y ∈ scope.names, y.2 = .free → ∃ c, X.env.cells.lookup y.1 = some c := fun y hy e => by
    rcases ok.free y hy e with k | k
    · exact I.ok.has _ (.inl k)
    · exact I.ok.has _ (.inr k)
  generalize hcenv : compEnvC scope (cellsFrom (s.heap.objs.size + 1) scope.names (cloFrom X.env.cells scope.names [])) s.heap.objs.size X.env = cenv
  have kp : ∀ b o, s.heap.get? b = some o → (pushCells (s.heap.push { cls := .type "dict", data := .dict #[] }) scope.names).get? b = some o := fun b o e => pushCells_keeps _ _ _ _ (Heap.get?_push_of_some _ e)
  have hL : cenv.locals = s.heap.objs.size := by rw [← hcenv]; rfl
  have hcl : cenv.cells = cellsFrom (s.heap.objs.size + 1) scope.names (cloFrom X.env.cells scope.names []) := by rw [← hcenv]; rfl
  have hsc : cenv.scope = relS scope X.env.scope := by rw [← hcenv]; rfl
  rw [← Heap.size_push s.heap { cls := .type "dict", data := .dict #[] }] at hcl
  have cm : ∀ {y c}, (y, c) ∈ cloFrom X.env.cells scope.names [] → X.env.cells.lookup y = some c ∧ c < s.heap.objs.size := fun {y c} hm => by
    rcases cloFrom_mem hm with hm | ⟨h1, rfl⟩
    · cases hm
    · obtain ⟨c, hc⟩ := hfree _ h1 rfl
      rw [hc]
      obtain ⟨w, z⟩ := I.cell _ _ hc
      exact ⟨rfl, z.lt⟩
  have mem : ∀ {y c}, cenv.cells.lookup y = some c → (X.env.cells.lookup y = some c ∧ c < s.heap.objs.size) ∨ (s.heap.objs.size + 1 ≤ c ∧ CellAt (pushCells (s.heap.push { cls := .type "dict", data := .dict #[] }) scope.names) c none) := fun {y c} e => by
    rw [hcl] at e
    rcases cells_mem (PySem.mem_of_lookup e) with hm | ⟨_, h2, h3⟩
    · exact .inl (cm hm)
    · rw [Heap.size_push] at h2; exact .inr ⟨h2, h3⟩
  have look : ∀ {y}, scope.names.lookup y = some .free → ∃ c, cenv.cells.lookup y = some c ∧ X.env.cells.lookup y = some c := fun {y} hl => by
    have hy : (y, NameKind.free) ∈ scope.names := PySem.mem_of_lookup hl
    obtain ⟨c', e'⟩ := mem_lookup (cells_acc (names := scope.names) (n := (s.heap.push { cls := .type "dict", data := .dict #[] }).objs.size) (cloFrom_has (cells := X.env.cells) (acc := []) hy))
    rw [← hcl] at e'
    refine ⟨c', e', ?_⟩
    rw [hcl] at e'
    rcases cells_mem (PySem.mem_of_lookup e') with hm | ⟨h1, _, _⟩
    · exact (cm hm).1
    · have := ok.uniq _ h1
      rw [hl] at this; cases this
  have okB : (X.blk s H scope cenv fp).Ok := by
    refine ⟨I.ok.mod, by show cenv.scope.kind = _; rw [hsc]; exact ok.kind, by show cenv.globals = _; rw [← hcenv]; exact I.ok.glob, by show cenv.builtins = _; rw [← hcenv]; exact I.ok.blt, by show s.heap.objs.size ≤ cenv.locals; rw [hL]; exact Nat.le_refl _,
      fun y z c e1 e2 => ?_, fun y hy => ?_, fun y c z e => ?_, I.ok.hd, I.ok.frames, .inl rfl, fun b hb => ⟨?_, fun y c e z => ?_⟩, I.bs, Nat.le_trans I.ok.bsz I.sz, fun b o e hb => ?_, fun b hb z => ?_, I.stack, I.stkFree⟩
    · have e1 : cenv.cells.lookup y = some c := e1
      have e2 : cenv.cells.lookup z = some c := e2
      rw [hcl] at e1 e2
      refine cells_inj (fun p hp => ?_) (fun y z c a b => I.ok.inj y z c (cm a).1 (cm b).1) (PySem.mem_of_lookup e1) (PySem.mem_of_lookup e2)
      rw [Heap.size_push]
      exact Nat.lt_succ_of_lt (cm (y := p.1) (c := p.2) hp).2
    · show ∃ c, cenv.cells.lookup y = some c
      have key : ∀ k, cenv.kindOf y = some k → (k = .cell ∨ k = .free) → ∃ c, cenv.cells.lookup y = some c := fun k hk hk' => by
        unfold Env.kindOf at hk
        rw [hsc] at hk
        obtain ⟨k', e, r⟩ := lookup_relS hk
        have : k' = .cell ∨ k' = .free := by
          rcases r with rfl | ⟨rfl, _⟩
          · exact hk'
          · exact .inr rfl
        rcases this with rfl | rfl
        · obtain ⟨c, hm⟩ := cells_has (n := (s.heap.push { cls := .type "dict", data := .dict #[] }).objs.size) (acc := cloFrom X.env.cells scope.names []) (PySem.mem_of_lookup e)
          obtain ⟨c', e'⟩ := mem_lookup hm
          exact ⟨c', by rw [hcl]; exact e'⟩
        · obtain ⟨c, h1, _⟩ := look e
          exact ⟨c, h1⟩
      rcases hy with hy | hy
      · exact key _ hy (.inl rfl)
      · exact key _ hy (.inr rfl)
    · have z : (scope.names.lookup y == some NameKind.cell) = true := z
      have z : scope.names.lookup y = some .cell := by simpa using z
      have e : cenv.cells.lookup y = some c := e
      rw [hcl] at e
      rcases cells_mem (PySem.mem_of_lookup e) with hm | ⟨_, h2, _⟩
      · rcases cloFrom_mem hm with hm | ⟨h1, _⟩
        · cases hm
        · have q := ok.uniq _ h1
          rw [z] at q; cases q
      · rw [Heap.size_push] at h2
        exact Nat.le_of_succ_le h2
    · show b ≠ cenv.locals
      rw [hL]; exact Nat.ne_of_lt (hfp b hb).2
    · have e : cenv.cells.lookup y = some c := e
      rcases mem e with ⟨h1, _⟩ | ⟨h1, _⟩
      · exact (hfp b hb).1.2.2.2.2.1 y c h1 z
      · have h2 : s.heap.objs.size + 1 ≤ b := by rw [← z]; exact h1
        exact absurd (Nat.lt_of_lt_of_le (hfp b hb).2 (Nat.le_of_succ_le h2)) (Nat.lt_irrefl _)
    · rcases (hfp b hb).1.2.2.2.1 with z | z
      · exact I.ok.noex b o e z
      · exact absurd (Nat.lt_of_lt_of_le (Heap.lt_size e) (Nat.le_trans I.ok.bsz z)) (Nat.lt_irrefl _)
    · rcases List.mem_cons.mp (I.stkSub b z) with z | z
      · exact (hfp b hb).1.2.1 z
      · exact (hfp b hb).1.2.2.1 z
  refine ⟨okB, rfl, I.bare, Un.kept kp, ⟨fun _ => none, ?_, fun i y av e1 e2 e3 => ?_⟩, fun y c e => ?_, ?_, fun y c e => ?_, fun p hp => ?_, I.hok.kept kp, by rw [wipe_length]; exact I.len⟩
  · show Heap.Ns _ cenv.locals _
    rw [hL]
    exact Heap.Ns.keeps (Heap.Ns.new ..) fun b o e => pushCells_keeps _ _ _ _ e
  · obtain ⟨e2, hne⟩ := wipe_some e2
    have hfr : scope.names.lookup y = some .free ∧ (cenv.kindOf y = some .cell ∨ cenv.kindOf y = some .free) := by
      have key : ∀ k, cenv.scope.names.lookup y = some k → k = .local ∨ k = .cell ∨ k = .free → scope.names.lookup y = some .free ∧ (cenv.kindOf y = some .cell ∨ cenv.kindOf y = some .free) := fun k hk hk' => by
        have hk0 := hk
        rw [hsc] at hk
        obtain ⟨k', e, r⟩ := lookup_relS hk
        have no : ¬ (k' = .local ∨ k' = .cell) := fun hh => by
          rcases ok.own _ (PySem.mem_of_lookup e) hh with e' | e'
          · obtain ⟨p, hp, hpy⟩ := List.mem_map.mp e'
            have e3 := ok.ix p hp
            have : p.1 = y := hpy
            rw [this] at e3
            exact hne (List.mem_map.mpr ⟨p, hp, nodup_ix hN e3 e1⟩)
          · exact e' (List.mem_of_getElem? e1)
        rcases r with rfl | ⟨rfl, rfl⟩
        · rcases hk' with rfl | rfl | rfl
          · exact absurd (.inl rfl) no
          · exact absurd (.inr rfl) no
          · exact ⟨e, .inr hk0⟩
        · exact ⟨e, .inl hk0⟩
      have e3 : Vis cenv.scope y := e3
      rcases e3 with e3 | e3 | e3
      · exact key _ e3 (.inl rfl)
      · exact key _ e3 (.inr (.inl rfl))
      · exact key _ e3 (.inr (.inr rfl))
    obtain ⟨m, hn, hl⟩ := I.loc
    have hvis : Vis X.env.scope y := (ok.free _ (PySem.mem_of_lookup hfr.1) rfl).elim (fun k => .inr (.inl k)) (fun k => .inr (.inr k))
    obtain ⟨w, r, q⟩ := hl i y av e1 e2 hvis
    refine ⟨w, r, .inr ⟨hfr.2, ?_⟩⟩
    obtain ⟨c, h1, h2⟩ := look hfr.1
    rcases q with ⟨k, _⟩ | ⟨_, c', e', z⟩
    · have k : X.env.scope.names.lookup y = some .local := k
      rcases ok.free _ (PySem.mem_of_lookup hfr.1) rfl with k' | k' <;> rw [show X.env.scope.names.lookup y = _ from k'] at k <;> cases k
    · rw [h2] at e'; cases e'
      exact ⟨c, h1, z.keeps kp⟩
  · have e : cenv.cells.lookup y = some c := e
    rcases mem e with ⟨h1, _⟩ | ⟨_, z⟩
    · obtain ⟨w, z⟩ := I.cell y c h1
      exact ⟨w, z.keeps kp⟩
    · exact ⟨_, z⟩
  · show H cenv.locals = none
    rw [hL]; exact I.hok.fresh (Nat.le_refl _)
  · have e : cenv.cells.lookup y = some c := e
    rcases mem e with ⟨h1, _⟩ | ⟨h1, _⟩
    · exact I.freeC y c h1
    · exact I.hok.fresh (Nat.le_of_succ_le h1)
  · exact absurd (show p ∈ ([] : List (Addr × Obj)) ++ [] from hp) (by simp)
theorem app_ok {E : Value → Shared → Prop} {D : Addr} {xs : List V} {y : V} {v : Value} {Q : Value → Shared → Prop} (I : Inv X pins σ H s) (hD : H D = some (.lst xs)) (hz : xs.length < sizeLine) (r : RelV y v)
    (h : ∀ s', Inv X pins σ (upd H D (.lst (xs ++ [y]))) s' → Q .none s') : wpAny (model X.prog X.w) X.A (call (.builtin "list.append") [.ref D, v]) Q E s := by
  obtain ⟨hz', its, n, ri, e⟩ := I.hok D _ hD
  have hl := ri.length
  refine append_at (hsz := by rw [List.size_toArray]; omega) e fun h' sb ho' => ?_
  refine h { s with heap := h' } (I.write (t' := s.toks) (by rw [hD]; trivial) (.inl rfl) (fun b u hb q => (sb.2 b hb).trans q) ⟨_, ho'⟩ ⟨by rw [List.length_append]; exact hz, its ++ [v], n + 1, ri.append (.cons r .nil), ?_⟩)
  rw [ho']
  simp
def PTs (X : Cx) (ifs : List Expr) (t : TT) : Prop :=
  ∀ (pins : List (Addr × Obj)) (s : Shared) (σ : St) (H : Hp) (Q : Bool → Hp → Prop), Inv X pins σ H s → t σ H Q →
    wpAny (model X.prog X.w) X.A (forIn ifs true fun c r => if r = true then do let ok ← isTrue c X.env (eval c X.env); pure (ForInStep.yield ok) else pure (ForInStep.yield r)) (TP X pins σ Q) X.xe s
def tYes : TT := fun _ H Q => Q true H
theorem pts_nil : PTs X [] tYes := fun _ _ _ H _ I h => wpAny_tests_nil ⟨H, I, h⟩
end
theorem thnF {α : Type} {t : Sem α} {Q Q' : α → Shared → Prop} {M : Model} {A : Around} {E : Value → Shared → Prop} {s : Shared} (h : wpAny M A t Q (fun _ _ => False) s) (hQ : ∀ a s, Q a s → Q' a s) : wpAny M A t Q' E s := wpAny_mono h hQ fun _ _ z => False.elim z
theorem compLoop_any {prog : Program} {w : World} {A : Around} {R : Result → Shared → Prop} {s : Shared} {elt target iter : Expr} {ifs : List Expr} {scope : Scope} {pos : Pos} {it acc : Value} {env : Env} (I : Nat → Shared → Prop)
    (turn : ∀ n s, I n s → wpAny (model prog w) A (pyNext it) (fun r s₁ => match r with
      | none => R (.ok .next) s₁
      | some v => wpAny (model prog w) A (letOwnedTupleGo target it v) (fun _ s₁' => wpAny (model prog w) A (assign target env v) (fun _ s₂ =>
          wpAny (model prog w) A (forIn ifs true fun c r => if r = true then do let ok ← isTrue c env (eval c env); pure (ForInStep.yield ok) else pure (ForInStep.yield r)) (fun ok s₃ =>
            if ok = true then wpAny (model prog w) A (eval elt env) (fun x s₄ =>
              wpAny (model prog w) A (call (.builtin "list.append") [acc, x]) (fun _ s₅ => ∃ m, m < n ∧ I m s₅) (notedBy (model prog w) A env fun e s' => R (.error e) s') s₄) (notedBy (model prog w) A env fun e s' => R (.error e) s') s₃
            else ∃ m, m < n ∧ I m s₃) (notedBy (model prog w) A env fun e s' => R (.error e) s') s₂) (notedBy (model prog w) A env fun e s' => R (.error e) s') s₁') (notedBy (model prog w) A env fun e s' => R (.error e) s') s₁) (notedBy (model prog w) A env fun e s' => R (.error e) s') s)
    (n : Nat) (h : I n s) :
    codeAny (model prog w) A (.compLoop (.ListComp elt [⟨target, iter, ifs, 0⟩] scope pos) 0 it acc env) R s := by
  refine codeAny_loop rfl I (fun n s hI => ?_) n h
  show wpAny _ A ((compTurn (.ListComp elt [⟨target, iter, ifs, 0⟩] scope pos) 0 it acc env).onRaise (fun x => do noteFrame x env; theTreesLotGoes x)) _ _ s
  refine wpAny_noted ?_
  rw [compTurn_list]
  refine wpAny_bind (wpAny_standAt (wpAny_bind (wpAny_mono (turn n s hI) (fun r s₁ h₁ => ?_) fun _ _ h' => h')))
  cases r with
  | none => exact wpAny_pure h₁
  | some v =>
    refine wpAny_bind (wpAny_mono h₁ (fun _ s₁' h₁' => ?_) fun _ _ h' => h')
    refine wpAny_bind (wpAny_mono h₁' (fun _ s₂ h₂ => wpAny_bind (wpAny_mono h₂ (fun ok s₃ h₃ => ?_) fun _ _ h' => h')) fun _ _ h' => h')
    cases ok with
    | false => exact wpAny_pure ⟨rfl, h₃⟩
    | true =>
      exact wpAny_bind (wpAny_bind (wpAny_mono h₃ (fun x s₄ h₄ => wpAny_bind (wpAny_mono h₄ (fun _ s₅ h₅ => wpAny_pure (wpAny_pure ⟨rfl, h₅⟩)) fun _ _ h' => h')) fun _ _ h' => h'))
section
variable {X : Cx}
def tLc (wi : TI) (g : TG) (tt : TT) (te : TE) (vs : List Nat) : TE := fun σ H Q => wi σ H fun J H1 => ∀ D, H1 D = none → ∃ W : Nat → Nat → Hp → Prop, (∃ m, W 0 m (upd H1 D (.lst []))) ∧ ∀ i m H, W i m H →
  (J.stop i H ∧ Q (.ref D) H) ∨ (J.go i H ∧ ∃ Nx : Hp → Prop, (∀ H', Nx H' → ∃ m', m' < m ∧ W (i + 1) m' H') ∧ ∀ x H', J.yld i H x H' → g x (wipe σ vs) H' fun σ2 H2 => wipe σ2 vs = wipe σ vs ∧ tt σ2 H2 fun b H3 =>
    if b = true then te σ2 H3 fun y H4 => ∃ acc, H4 D = some (.lst acc) ∧ acc.length < sizeLine ∧ Nx (upd H4 D (.lst (acc ++ [y]))) else Nx H3)
theorem lc_core {pins : List (Addr × Obj)} {s : Shared} {σ : St} {H : Hp} {Q : VK} {elt tg iter : Expr} {ifs : List Expr} {scope : Scope} {own : List (Str × Nat)} {pos pos' : Pos} {wi : TI} {g : TG} {tt : TT} {te : TE} {use : Option (Value → Sem Unit)} {Qf : Value → Shared → Prop}
    (hc : X.calm = true) (hN : X.N.Nodup) (I : Inv X pins σ H s) (hi : PI X tg iter wi) (ok : BlkOk X.N X.env.scope scope own)
    (hg : ∀ (s : Shared) (H : Hp) (C : Addr) (cl : List (Str × Addr)) (fp : List Addr), PG (X.blk s H scope (compEnvC scope cl C X.env) fp) tg g) (ht : ∀ (s : Shared) (H : Hp) (C : Addr) (cl : List (Str × Addr)) (fp : List Addr), PTs (X.blk s H scope (compEnvC scope cl C X.env) fp) ifs tt)
    (he : ∀ (s : Shared) (H : Hp) (C : Addr) (cl : List (Str × Addr)) (fp : List Addr), PE (X.blk s H scope (compEnvC scope cl C X.env) fp) elt te) (hs : ∀ x, foldedSetIterable iter X.env x = pure x)
    (h : tLc wi g tt te (own.map (·.2)) σ H Q)
    (hRR : ∀ D C s' m H', Inv X pins σ H' s' → Q (.ref D) H' → s'.heap.Ns C m → FpOk X pins H' C → compPost (model X.prog X.w) X.A X.xe use Qf (.ref D) C (.ok .next) s') :
    wpAny (model X.prog X.w) X.A (comprehension (.ListComp elt [⟨tg, iter, ifs, 0⟩] scope pos) scope X.env pos' (newList []) false (eval iter X.env) use) Qf X.xe s := by
  have hfree : ∀ y ∈ scope.names, y.2 = .free → ∃ c, X.env.cells.lookup y.1 = some c := fun y hy e => by
    rcases ok.free y hy e with k | k
    · exact I.ok.has _ (.inl k)
    · exact I.ok.has _ (.inr k)
  refine wpAny_comprehension_free (use := use) rfl hs (closure_ok hfree) ok.kind (fun y hy e => by rw [ok.uniq y hy, e])
    (thn (hi pins s σ H _ I h) fun xv s1 hx => thn hx fun itv s2 h2 => ?_)
  obtain ⟨it, fp, tn, J, H2, e, I2, T, st2, f2, q⟩ := h2
  subst e
  refine wpAny_newObj_type (newEnv_comp ?_) (by show 0 ≤ sizeLine; decide)
  generalize hD : s2.heap.objs.size = D
  have hDn : H2 D = none := I2.hok.fresh (Nat.le_of_eq hD)
  obtain ⟨W, ⟨m0, w0⟩, turn⟩ := q D hDn
  -- the new list
  generalize hs3 : ({ s2 with heap := s2.heap.push { cls := .type "list", data := .seq ([] : List Value).toArray } } : Shared) = s3
  have I3 : Inv X pins σ (upd H2 D (.lst [])) s3 := by
    rw [← hs3]
    refine I2.laid (t' := s2.toks) (fun b o e => Heap.get?_push_of_some _ e) (Nat.le_of_eq hD) ⟨Nat.zero_le _, [], 0, .nil, ?_⟩
    rw [← hD]
    exact Heap.get?_push_size _ rfl
  have h3 : s3.heap = s2.heap.push { cls := .type "list", data := .seq ([] : List Value).toArray } := by rw [← hs3]
  have sz : ∀ b ∈ fp, b < s2.heap.objs.size := fun b hb => by
    obtain ⟨o, e, _⟩ := T.obj _ _ st2 b hb
    exact Heap.lt_size e
  have f3 : ∀ b ∈ fp, FpOk X pins (upd H2 D (.lst [])) b ∧ b < s3.heap.objs.size := fun b hb => by
    have hlt := sz b hb
    refine ⟨⟨?_, (f2 b hb).2⟩, by rw [h3, Heap.size_push]; exact Nat.lt_succ_of_lt hlt⟩
    rw [upd_ne (by rw [← hD]; exact Nat.ne_of_lt hlt)]
    exact (f2 b hb).1
  have st3 : tn 0 s3.heap := T.keep _ _ _ st2 fun b _ o e => by rw [h3]; exact Heap.get?_push_of_some _ e
  have I4 := block_start I3 ok hN f3
  have pg := hg s3 (upd H2 D (.lst [])) s3.heap.objs.size (cellsFrom (s3.heap.objs.size + 1) scope.names (cloFrom X.env.cells scope.names [])) fp
  have pt := ht s3 (upd H2 D (.lst [])) s3.heap.objs.size (cellsFrom (s3.heap.objs.size + 1) scope.names (cloFrom X.env.cells scope.names [])) fp
  have pe := he s3 (upd H2 D (.lst [])) s3.heap.objs.size (cellsFrom (s3.heap.objs.size + 1) scope.names (cloFrom X.env.cells scope.names [])) fp
  show codeAny _ _ (.compStart (.ListComp elt [⟨tg, iter, ifs, 0⟩] scope pos) 0 (.ref it) (.ref D) (compEnvC scope (cellsFrom (s3.heap.objs.size + 1) scope.names (cloFrom X.env.cells scope.names [])) s3.heap.objs.size X.env)) (compPost (model X.prog X.w) X.A X.xe use Qf (.ref D) s3.heap.objs.size) { s3 with heap := pushCells (s3.heap.push { cls := .type "dict", data := .dict #[] }) scope.names }
  have nfp : ∀ b ∈ fp, (upd H2 D (.lst [])) b = none := fun b hb => (f3 b hb).1.1
  generalize hce : compEnvC scope (cellsFrom (s3.heap.objs.size + 1) scope.names (cloFrom X.env.cells scope.names [])) s3.heap.objs.size X.env = ce at I4 pg pt pe ⊢
  have cL : ce.locals = s3.heap.objs.size := by subst hce; rfl
  generalize hH3 : upd H2 D (.lst []) = H3 at I3 I4 pg pt pe w0 nfp f3
  generalize hs4 : ({ s3 with heap := pushCells (s3.heap.push { cls := .type "dict", data := .dict #[] }) scope.names } : Shared) = s4 at I4 ⊢
  have st4 : tn 0 s4.heap := T.keep _ _ _ st3 fun b _ o e => by rw [← hs4]; exact pushCells_keeps _ _ _ _ (Heap.get?_push_of_some _ e)
  have stat : ∀ {σ' : St} {H' : Hp} {s' : Shared}, Inv (X.blk s3 H3 scope ce fp) [] σ' H' s' → (∀ b ∈ fp, H' b = none) → ∀ b ∈ fp, FpOk (X.blk s3 H3 scope ce fp) [] H' b := fun {σ' H' s'} I' hn b hb =>
    ⟨hn b hb, (I'.ok.exf b hb).1, I'.ok.exfs b hb, .inl hb, fun x c e => (I'.ok.exf b hb).2 x c e, fun p hp => absurd (show p ∈ ([] : List (Addr × Obj)) ++ [] from hp) (by simp)⟩
  have loop : codeAny (model X.prog X.w) X.A (.compLoop (.ListComp elt [⟨tg, iter, ifs, 0⟩] scope pos) 0 (.ref it) (.ref D) ce) (compPost (model X.prog X.w) X.A X.xe use Qf (.ref D) s3.heap.objs.size) s4 := by
    refine compLoop_any (fun n s' => ∃ i H', Inv (X.blk s3 H3 scope ce fp) [] (wipe σ (own.map (·.2))) H' s' ∧ tn i s'.heap ∧ (∀ b ∈ fp, H' b = none) ∧ W i n H') ?_ m0 ⟨0, H3, I4, st4, nfp, w0⟩
    rintro n s5 ⟨i, H5, I5, st5, n5, w5⟩
    rcases turn i n H5 w5 with ⟨stop, qq⟩ | ⟨go, Nx, hNx, step⟩
    · have td := T.done (X.blk s3 H3 scope ce fp) rfl rfl rfl hc i [] s5 _ H5 (fun _ _ => False) I5 (stat I5 n5) st5 stop
      refine thnF td fun r s6 ⟨hr, I6⟩ => ?_
      subst hr
      -- back in the def's context
      have I7 : Inv X pins σ H5 s6 := I3.call' (ch := fp) I6.os I6.base I6.hok I6.bare fun b hb => ⟨(f3 b hb).1.2.2.2.1, (f3 b hb).1.2.1, (f3 b hb).1.2.2.2.2.1, (f3 b hb).1.2.2.2.2.2⟩
      have nC : H5 s3.heap.objs.size = none := by
        have z : H5 ce.locals = none := I6.free
        rw [cL] at z
        exact z
      obtain ⟨m, hn, _⟩ := I6.loc
      have hn : s6.heap.Ns ce.locals m := hn
      rw [cL] at hn
      exact hRR D s3.heap.objs.size s6 m H5 I7 qq hn (I3.fpOk (Nat.le_refl _) nC)
    · have ti := T.item (X.blk s3 H3 scope ce fp) rfl rfl rfl hc i [] s5 _ H5 (fun _ _ => False) I5 (stat I5 n5) st5 go
      refine thnF ti fun r s6 ⟨u, hr, h6⟩ => ?_
      subst hr
      refine thnF h6 fun _ s7 ⟨x, H7, I7, r7, y7, st7, n7⟩ => ?_
      have I7' := I7.pinned (stat I7 n7) (T.obj _ _ st7)
      refine thnF (pg _ s7 _ H7 x u _ I7' r7 (step x H7 y7)) fun _ s8 ⟨σ8, H8, I8, hw8, q8⟩ => ?_
      refine thnF (pt _ s8 σ8 H8 _ I8 q8) fun b s9 ⟨H9, I9, q9⟩ => ?_
      -- the turn's end
      have fin : ∀ {s' : Shared} {H' : Hp}, Inv (X.blk s3 H3 scope ce fp) ([] ++ pinsAt fp s7.heap) σ8 H' s' → Nx H' → ∃ m, m < n ∧ ∃ i H', Inv (X.blk s3 H3 scope ce fp) [] (wipe σ (own.map (·.2))) H' s' ∧ tn i s'.heap ∧ (∀ b ∈ fp, H' b = none) ∧ W i m H' := fun {s' H'} I' nx => by
        obtain ⟨m', hm, w'⟩ := hNx H' nx
        have pin' : ∀ b ∈ fp, ∀ o, s7.heap.get? b = some o → s'.heap.get? b = some o ∧ H' b = none := fun b hb o e =>
          let z := I'.pin (b, o) (List.mem_append_right _ (List.mem_append_right _ (mem_pinsAt hb e)))
          ⟨z.1, z.2.1⟩
        have hl : (wipe σ (own.map (·.2))).length = σ8.length := by rw [← hw8, wipe_length]
        refine ⟨m', hm, i + 1, H', (I'.unpinned (pins := [])).weak hl (fun j v e => ?_), T.keep _ _ _ st7 fun b hb o e => (pin' b hb o e).1, fun b hb => ?_, w'⟩
        · rw [← hw8] at e
          exact (wipe_some e).1
        · obtain ⟨o, e, _⟩ := T.obj _ _ st7 b hb
          exact (pin' b hb o e).2
      cases b with
      | false =>
        simp only [Bool.false_eq_true, if_false] at q9 ⊢
        exact fin I9 q9
      | true =>
        simp only [if_true] at q9 ⊢
        refine thnF (pe _ s9 σ8 H9 _ I9 q9) fun z s10 ⟨yv, H10, I10, r10, acc, hD10, hz10, nx⟩ => ?_
        exact app_ok (X := X.blk s3 H3 scope ce fp) I10 hD10 hz10 r10 fun s11 I11 => fin I11 nx
  exact codeAny_compStart_list loop (T.self X.A 0 _ _ _ st4 loop)
theorem pe_lc {elt tg iter : Expr} {ifs : List Expr} {scope : Scope} {own : List (Str × Nat)} {pos : Pos} {wi : TI} {g : TG} {tt : TT} {te : TE} (hc : X.calm = true) (hN : X.N.Nodup) (hi : PI X tg iter wi) (ok : BlkOk X.N X.env.scope scope own)
    (hg : ∀ (s : Shared) (H : Hp) (C : Addr) (cl : List (Str × Addr)) (fp : List Addr), PG (X.blk s H scope (compEnvC scope cl C X.env) fp) tg g) (ht : ∀ (s : Shared) (H : Hp) (C : Addr) (cl : List (Str × Addr)) (fp : List Addr), PTs (X.blk s H scope (compEnvC scope cl C X.env) fp) ifs tt)
    (he : ∀ (s : Shared) (H : Hp) (C : Addr) (cl : List (Str × Addr)) (fp : List Addr), PE (X.blk s H scope (compEnvC scope cl C X.env) fp) elt te) (hs : ∀ x, foldedSetIterable iter X.env x = pure x := by intro _; rfl) :
    PE X (.ListComp elt [⟨tg, iter, ifs, 0⟩] scope pos) (tLc wi g tt te (own.map (·.2))) := by
  intro pins s σ H Q I h
  rw [eval_ListComp]
  refine lc_core hc hN I hi ok hg ht he hs h fun D C s' m H' I' q hn f => ⟨m, hn, fun h'' sb => ?_⟩
  obtain ⟨f0, f1, f2, f3, f4, f5⟩ := f
  exact ⟨.ref D, H', I'.turned (t' := s'.toks) (fun b o hb e => (sb.2 b hb).trans e) f0 f1 f3 f4 f5, rfl, q⟩
end
theorem lc_list {K : PySem.W.Frag} {a : Addr} {xs : List V} {g : TG} {tt : TT} {te : TE} {vs : List Nat} {σ : St} {H1 : Hp} {D : Addr} {Qd : Hp → Prop} (Pv : Nat → Hp → Prop) (h0 : Pv 0 (upd H1 D (.lst []))) (hl : ∀ i H, i ≤ xs.length → Pv i H → SqL K H a xs)
    (hs : ∀ i x H, xs[i]? = some x → Pv i H → g x (wipe σ vs) H fun σ2 H2 => wipe σ2 vs = wipe σ vs ∧ tt σ2 H2 fun b H3 =>
      if b = true then te σ2 H3 fun y H4 => ∃ acc, H4 D = some (.lst acc) ∧ acc.length < sizeLine ∧ Pv (i + 1) (upd H4 D (.lst (acc ++ [y]))) else Pv (i + 1) H3) (hd : ∀ H, Pv xs.length H → Qd H) :
    ∃ W : Nat → Nat → Hp → Prop, (∃ m, W 0 m (upd H1 D (.lst []))) ∧ ∀ i m H, W i m H →
      ((Itl K a).stop i H ∧ Qd H) ∨ ((Itl K a).go i H ∧ ∃ Nx : Hp → Prop, (∀ H', Nx H' → ∃ m', m' < m ∧ W (i + 1) m' H') ∧ ∀ x H', (Itl K a).yld i H x H' → g x (wipe σ vs) H' fun σ2 H2 => wipe σ2 vs = wipe σ vs ∧ tt σ2 H2 fun b H3 =>
        if b = true then te σ2 H3 fun y H4 => ∃ acc, H4 D = some (.lst acc) ∧ acc.length < sizeLine ∧ Nx (upd H4 D (.lst (acc ++ [y]))) else Nx H3) := by
  refine ⟨fun i m H => m = xs.length - i ∧ i ≤ xs.length ∧ Pv i H, ⟨xs.length, by simp, Nat.zero_le _, h0⟩, ?_⟩
  rintro i m H ⟨rfl, hi, p⟩
  have q := hl i H hi p
  by_cases hlt : i < xs.length
  · refine .inr ⟨⟨xs, xs[i], q, by simp [hlt]⟩, Pv (i + 1), fun H' p' => ⟨xs.length - (i + 1), by omega, rfl, hlt, p'⟩, fun x H' y => ?_⟩
    obtain ⟨e, y⟩ := y
    subst e
    exact hs i x _ (y xs q) p
  · have e : i = xs.length := by omega
    subst e
    exact .inl ⟨⟨xs, q, Nat.le_refl _⟩, hd H p⟩
def blkC (N : List Str) (sc scope : Scope) (own : List (Str × Nat)) : Bool :=
  (match scope.kind with | .function => true | _ => false) && (scope.names.all fun y => decide (scope.names.lookup y.1 = some y.2)) && (own.all fun p => decide (N[p.2]? = some p.1)) &&
    (scope.names.all fun y => match y.2 with
      | .free => (match sc.names.lookup y.1 with | some .cell => true | some .free => true | _ => false)
      | .local => decide (y.1 ∈ own.map (·.1)) || decide (y.1 ∉ N)
      | .cell => decide (y.1 ∈ own.map (·.1)) || decide (y.1 ∉ N)
      | _ => true)
theorem blkOk_by {N : List Str} {sc scope : Scope} {own : List (Str × Nat)} (h : blkC N sc scope own = true) : BlkOk N sc scope own := by
  unfold blkC at h
  simp only [Bool.and_eq_true, List.all_eq_true, decide_eq_true_eq] at h
  obtain ⟨⟨⟨h1, h2⟩, h3⟩, h4⟩ := h
  refine ⟨?_, h2, h3, fun y hy e => ?_, fun y hy e => ?_⟩
  · split at h1
    · assumption
    · cases h1
  · have q := h4 y hy
    simp only [e] at q
    split at q <;> first | exact .inl (by assumption) | exact .inr (by assumption) | cases q
  · have q := h4 y hy
    rcases e with e | e <;> (simp only [e, Bool.or_eq_true, decide_eq_true_eq] at q; exact q)
end L2
namespace L2
open PySem PySem.Spec PyProof.Rows
section
variable {prog : Program} {w : World} {A : Around} {R : Result → Shared → Prop} {s : Shared} {elt t0 i0 t1 i1 : Expr} {ifs0 ifs1 : List Expr} {scope : Scope} {pos : Pos} {it acc : Value} {env : Env}
end
section
variable {X : Cx}
end
end L2
namespace L2
open PySem PySem.Spec PyProof.Rows
section
variable {κ : Type} [DecidableEq κ]
def valV (kvs : List (κ × V)) (k : κ) : Option V := (kvs.find? fun kv => decide (kv.1 = k)).map (·.2)
theorem valV_pos {p : κ × V} {r : List (κ × V)} {k : κ} (e : p.1 = k) : valV (p :: r) k = some p.2 := by simp [valV, List.find?_cons, e]
theorem valV_neg {p : κ × V} {r : List (κ × V)} {k : κ} (e : ¬ p.1 = k) : valV (p :: r) k = valV r k := by simp [valV, List.find?_cons, e]
theorem RelO.isSome_eq {o : Option V} {u : Option Value} (r : RelO o u) : o.isSome = u.isSome := by
  cases o with
  | none => cases u with
    | none => rfl
    | some _ => exact (show False from r).elim
  | some _ => cases u with
    | none => exact (show False from r).elim
    | some _ => rfl
theorem RelO.getD {o : Option V} {u : Option Value} {d : V} {d' : Value} (r : RelO o u) (rd : RelV d d') : RelV (o.getD d) (u.getD d') := by
  cases o with
  | none => cases u with
    | none => exact rd
    | some _ => exact (show False from r).elim
  | some _ => cases u with
    | none => exact (show False from r).elim
    | some _ => exact r
theorem KV.val {kvs : List (κ × V)} {vs : List (κ × Value)} (r : KV kvs vs) (k : κ) : RelO (valV kvs k) (valueAt vs k) := by
  unfold KV at r
  induction r with
  | nil => exact True.intro
  | @cons p q ps qs h t ih =>
    obtain ⟨h1, h2⟩ := h
    by_cases e : p.1 = k
    · have e' : q.1 = k := h1.symm.trans e
      have b : valueAt (q :: qs) k = some q.2 := by simp [valueAt, List.find?_cons, e']
      rw [valV_pos e, b]; exact h2
    · have e' : ¬ q.1 = k := fun z => e (h1.trans z)
      have b : valueAt (q :: qs) k = valueAt qs k := by simp [valueAt, List.find?_cons, e']
      rw [valV_neg e, b]; exact ih
end
theorem kV_is {P : Program} {w : World} {k : Key} {u : Value} (r : RelV (kV k) u) : (mixKind P w).is k u = true := by
  cases k with
  | inl i => obtain ⟨t, e⟩ := (show ∃ t, u = Value.int i t from r); subst e; exact mixKind_int P w i t
  | inr x => obtain ⟨t, e⟩ := (show ∃ t, u = Value.str x t from r); subst e; exact mixKind_str P w x t
section
variable {P : Program} {w : World} {H : Hp} {h : Heap} {a : Addr}
end
section
variable {X : Cx} {pins : List (Addr × Obj)} {σ : St} {H : Hp} {s : Shared} {a : Addr} {y v : V} {u r : Value} {o : Option V} {A : Around} {E : Value → Shared → Prop}
end
section
variable {X : Cx} {pins : List (Addr × Obj)} {σ : St} {H : Hp} {s : Shared} {a : Addr} {kvs : List (Key × V)} {k : Key} {u : Value} {A : Around} {E : Value → Shared → Prop}
end
def NoSl (i : Expr) : Prop := ∀ ov iv, subscripted i false ov iv = operate [ov, iv] (getItem ov iv)
theorem subD_of {prog : Program} {w : World} {A : Around} {E : Value → Shared → Prop} {s : Shared} {env : Env} {value slice : Expr} {pos : Pos} {T id : String} {Q : Value → Shared → Prop}
    (hl : typeLookup (.type T) "__getitem__" = pure (some (.builtin id))) (hs : NoSl slice)
    (h : wpAny (model prog w) A (eval value env) (fun o s₁ => wpAny (model prog w) A (eval slice env) (fun i s₂ => s₂.TypeIs o T ∧ wpAny (model prog w) A (getItem o i) Q E s₂) E s₁) E s) :
    wpAny (model prog w) A (eval (.Subscript value slice pos) env) Q E s := by
  refine Subscript_ (wpAny_mono h (fun o s₁ h₁ => wpAny_mono h₁ (fun i s₂ h₂ => ?_) fun _ _ x => x) fun _ _ x => x)
  obtain ⟨hT, h₂⟩ := h₂
  unfold subscriptTail
  refine wpAny_bind ?_
  rw [getitemInPython_of_ne hT.not_modules]
  refine wpAny_bind (wpAny_specialOf hT hl ?_)
  have fin : wpAny (model prog w) A (subscripted slice false o i) (fun r s₃ => wpAny (model prog w) A (letTemporaryGo value o r >>= fun _ => pure r) Q E s₃) E s₂ := by
    rw [hs o i]
    exact wpAny_operating (wpAny_mono h₂ (fun r s₃ h₃ => wpAny_bind (wpAny_letTemporaryGo (wpAny_pure h₃))) fun _ _ x => x)
  first
    | exact wpAny_pure (wpAny_bind fin)
    | exact wpAny_bind (wpAny_pure (wpAny_bind fin))
    | exact wpAny_bind fin
section
variable {X : Cx} {o i e value : Expr} {pos pos' tpos : Pos} {td ty tv : TE}
end
section
variable {X : Cx} {pos : Pos}
end
structure M1 (X : Cx) (o : Expr) (m : Str) (apos : Pos) (e : Expr) (cpos : Pos) : Prop where
  base : attributeBase o m X.env (eval o X.env) = eval o X.env
  few : ((backTo cpos (starEach [e] X.env)).all (fun x => !x.1) && (backToKw cpos (keywordEach [] X.env)).all (fun x => x.1.isSome)
    && decide (([e] : List Expr).length + ([] : List Keyword).length + (if ([] : List Keyword).isEmpty then 0 else 1) < 30)) = true
  line : (apos.endLine == cpos.line) = true
  trees : backTo cpos (starEach [e] X.env) = [(false, eval e X.env)]
section
variable {X : Cx} {pins : List (Addr × Obj)} {σ : St} {H : Hp} {s : Shared} {a : Addr} {y d : V} {u r : Value} {o : Option V} {A : Around} {E : Value → Shared → Prop}
end
section
variable {X : Cx} {o e f : Expr} {apos cpos : Pos} {td ty tx : TE}
end
section
variable {X : Cx} {pins : List (Addr × Obj)} {σ : St} {H : Hp} {s : Shared} {a : Addr} {kvs : List (Key × V)} {A : Around} {E : Value → Shared → Prop}
end
section
variable {X : Cx} {pins : List (Addr × Obj)} {σ : St} {H : Hp} {s : Shared} {a : Addr} {y : V} {u : Value} {A : Around} {E : Value → Shared → Prop}
end
end L2
namespace L2
open PySem PySem.Spec PyProof.Rows
section
variable {prog : Program} {w : World} {A : Around} {E : Value → Shared → Prop}
end
section
variable {X : Cx}
end
end L2
namespace L2
open PySem PySem.Spec PyProof.Rows
section
variable {X : Cx} {pins : List (Addr × Obj)} {σ : St} {H : Hp} {s : Shared} {h' : Heap}
theorem Inv.turnedNew {t' : Nat} {ch : List Addr} {T : Addr} {ob : HO} (I : Inv X pins σ H s) (k : ∀ b o, b ∉ ch → s.heap.get? b = some o → h'.get? b = some o) (hf : ∀ b ∈ ch, FpOk X pins H b) (hT : s.heap.objs.size ≤ T)
    (new : ObjOk X.prog X.w (upd H T ob) h' T ob) : Inv X pins σ (upd H T ob) { s with heap := h', toks := t' } := by
  have hn : H T = none := I.hok.fresh hT
  have nit : ∀ b u, H b = some u → b ∉ ch := fun b u e z => by
    have q := (hf b z).1
    rw [q] at e; cases e
  refine I.step (g' := s.gens) (d' := s.drawn) (ch := ch) (fun b hb => ⟨(hf b hb).2.2.2.1, (hf b hb).2.1, (hf b hb).2.2.2.2.1, (hf b hb).2.2.2.2.2⟩) (fun b o _ _ hc e _ => k b o hc e) (fun b o _ _ hc e _ => ⟨o.slots, k b o hc e⟩)
    (fun b o _ e n => ?_) (fun b o hc e => ⟨o, k b o hc e⟩) (fun b xs e => ?_) (fun b o u e => ?_) (fun b ps e => ⟨#[], ?_⟩) (fun m hm => ?_) (fun b u e => ?_) I.bare
  · rw [upd_ne (Nat.ne_of_lt (Nat.lt_of_lt_of_le (Heap.lt_size e) hT))]; exact n
  · rw [upd_ne (ne_of_none e hn)]; exact e
  · rw [upd_ne (ne_of_none e hn)]; exact e
  · rw [upd_ne (ne_of_none e hn), e]; simp
  · obtain ⟨o, es, ep, ho, r⟩ := hm
    exact ⟨o, es, ep, k _ o (fun z => (hf _ z).2.1 rfl) ho, r⟩
  · by_cases hb : b = T
    · subst hb
      rw [upd_same] at e
      cases e
      exact new
    · rw [upd_ne hb] at e
      refine (I.hok b u e).stay (fun c v hc q => k c v ?_ q) (fun c q => by rw [upd_ne (ne_of_none q hn)]; exact q) fun c xs q => by rw [upd_ne (ne_of_none q hn)]; exact q
      rcases hc with z | z
      · rw [z]; exact nit b u e
      · exact nit c _ z
end
section
variable {X : Cx}
theorem pi_one {tg : Expr} {pins : List (Addr × Obj)} {σ : St} {H : Hp} {s : Shared} {R : It → Hp → Prop} {J : It} {tn : Nat → Heap → Prop} {tk : Nat} (I : Inv X pins σ H s) (o : Obj)
    (T : Turn X.prog X.w X.K tg J [s.heap.objs.size] s.heap.objs.size tn) (st : tn 0 (s.heap.push o)) (q : R J H) : PIE X pins σ tg R (.ref s.heap.objs.size) { s with heap := s.heap.push o, toks := tk } := by
  refine ⟨s.heap.objs.size, [s.heap.objs.size], tn, J, H, rfl, I.kept fun b ob e => Heap.get?_push_of_some _ e, T, st, fun b hb => ?_, q⟩
  have e : b = s.heap.objs.size := by simpa using hb
  subst e
  exact I.fpOk (Nat.le_refl _) (I.hok.fresh (Nat.le_refl _))
end
def Itc (lo c : Int) (n : Nat) : It := ⟨fun i _ => i < n, fun i H x H' => H' = H ∧ x = .int (lo + (i : Nat) * c), fun i _ => n ≤ i⟩
theorem turn_rangeC {P : Program} {w : World} {K : PySem.W.Frag} {tg : Expr} (it : Addr) (lo c : Int) (n : Nat) : Turn P w K tg (Itc lo c n) [it] it (fun i h => IsRangeIter h it (lo + (i : Nat) * c) ((n : Int) - (i : Nat)) c) where
  mem := by simp
  obj := fun i h st b hb => by
    have e : b = it := by simpa using hb
    subst e
    exact ⟨_, st, fun v z => nomatch z⟩
  keep := fun i h h' st k => k it (by simp) _ st
  item := by
    intro X hP hw hK hc i pins s σ H E I hf st hg
    subst hP hw hK
    obtain ⟨f0, f1, f2, f3, f4, f5⟩ := hf it (by simp)
    have W := Walks.range (prog := X.prog) (w := X.w) (I.ok.hd hc) it lo c n
    refine W.item i s _ _ hg st fun v h' tk hv st' kk => ?_
    obtain ⟨t, rfl⟩ := hv
    have I1 : Inv X pins σ H { s with heap := h', toks := tk } := I.turned (fun b o hb e => kk b o (by simpa using hb) e) f0 f1 f3 f4 f5
    exact ⟨_, rfl, go_of (s := { s with heap := h', toks := tk }) (n := "range_iterator") st' rfl rfl (by decide) ⟨.int (lo + (i : Nat) * c), H, I1, ⟨t, rfl⟩, ⟨rfl, rfl⟩, st', fun b hb => (hf b hb).1⟩⟩
  done := by
    intro X hP hw hK hc i pins s σ H E I hf st hg
    subst hP hw hK
    obtain ⟨f0, f1, f2, f3, f4, f5⟩ := hf it (by simp)
    exact wpAny_pyNext_range_end (I.ok.hd hc) st (by have : n ≤ i := hg; omega) fun h' eb => ⟨rfl, I.turned (t' := s.toks) (fun b o hb e => eb b o hb e) f0 f1 f3 f4 f5⟩
  self := fun A i s Q E st h => wpAny_pyIter_rangeiter st h
def RgC (i j c : Int) (n : Nat) : Prop := c ≠ 0 ∧ c.natAbs < 1073741824 ∧ Builtin.Range.small i j c = true ∧ Builtin.Range.rangeSize i j c = n
def iRng3 (ta : TA) : TI := fun σ H R => ta σ H fun vs H1 => ∃ (i j c : Int) (n : Nat), vs = [.int i, .int j, .int c] ∧ RgC i j c n ∧ R (Itc i c n) H1
section
variable {X : Cx} {tg : Expr}
theorem pi_range3 {a b c : Expr} {ta : TA} {p pos : Pos} (hg : Gl X "range") (hm : X.mg "range" = none) (ha : PA X [a, b, c] ta)
    (hs : starEach [a, b, c] X.env = (false, eval a X.env) :: starEach [b, c] X.env := by rfl) (hpl : (backTo pos (starEach [b, c] X.env)).any (·.1) = false := by rfl) :
    PI X tg (.Call (.Name "range" p) [a, b, c] [] pos) (iRng3 ta) := by
  intro pins s σ H R I h
  refine Call_ (ld_blt I hg hm boot_range (PyProof.Rows.callWith_type1 (thn (ha pos pins s σ H _ I h) fun us s1 ⟨vs, H1, I1, r1, q1⟩ => ?_) hs hpl))
  obtain ⟨i, j, k, n, e, ⟨c0, c1, c2, c3⟩, q⟩ := q1
  subst e
  cases r1 with
  | cons r rr =>
    cases rr with
    | cons r' rr =>
      cases rr with
      | cons r'' rr =>
        cases rr
        obtain ⟨t, rfl⟩ := r
        obtain ⟨t', rfl⟩ := r'
        obtain ⟨t'', rfl⟩ := r''
        refine call_range_3 c0 ?_ (.inl (PyProof.noPylong_small c1))
        refine wpAny_pyIter_range (IsRange.new ..) c2 ?_
        have I2 : Inv X pins σ H1 { s1 with heap := s1.heap.push { cls := .type "range", data := .fields #[.int i t, .int j t', .int k t''] } } := I1.kept (t' := s1.toks) fun b o e => Heap.get?_push_of_some _ e
        refine pi_one (tk := s1.toks) I2 _ (turn_rangeC _ i k n) ?_ q
        have e1 : i + ((0 : Nat) : Int) * k = i := by simp
        have e2 : (n : Int) - ((0 : Nat) : Int) = Builtin.Range.rangeSize i j k := by rw [c3]; simp
        show IsRangeIter _ _ (i + ((0 : Nat) : Int) * k) ((n : Int) - ((0 : Nat) : Int)) k
        rw [e1, e2]
        exact Heap.get?_push_size _ rfl
end
section
variable {X : Cx} {tg : Expr}
end
section
variable {prog : Program} {w : World} {A : Around} {E : Value → Shared → Prop} {s : Shared}
end
section
variable {X : Cx} {pins : List (Addr × Obj)} {σ : St} {H : Hp} {s : Shared} {d : Addr} {o : Obj}
end
section
variable {P : Program} {w : World} {K : PySem.W.Frag} {tg : Expr} {d : Addr} {o : Obj} {es : Array DictEntry} {ep : Nat}
end
section
variable {X : Cx} {tg e : Expr} {td : TE} {apos cpos : Pos}
end
def Ite (K : PySem.W.Frag) (a : Addr) : It :=
  ⟨fun i H => ∃ (xs : List V) (x : V), SqL K H a xs ∧ xs[i]? = some x, fun i H v H' => ∃ T x, v = .ref T ∧ H T = none ∧ H' = upd H T (.tup [.int (i : Nat), x]) ∧ ∀ xs, SqL K H a xs → xs[i]? = some x, fun i H => ∃ xs : List V, SqL K H a xs ∧ xs.length ≤ i⟩
theorem turn_enum {P : Program} {w : World} {K : PySem.W.Frag} {elts : List Expr} {kk : Nat} {tpos : Pos} (a e it : Addr) :
    Turn P w K (.Tuple elts kk tpos) (Ite K a) [e, it] e (fun i h => (∃ old, IsEnum h e it ((i : Nat) : Int) old) ∧ h.IsListIter it a i ∧ e ≠ it) where
  mem := by simp
  obj := fun i h st b hb => by
    obtain ⟨⟨old, he⟩, ⟨o, ho, hc, hd⟩, _⟩ := st
    have e' : b = e ∨ b = it := by simpa using hb
    rcases e' with z | z
    · rw [z]; exact ⟨_, he, fun v q => nomatch q⟩
    · rw [z]; exact ⟨o, ho, fun v q => by rw [hd] at q; cases q⟩
  keep := fun i h h' st k => let ⟨⟨old, he⟩, hi, hne⟩ := st; ⟨⟨old, k e (by simp) _ he⟩, hi.at fun o q => k it (by simp) o q, hne⟩
  item := by
    intro X hP hw hK hc i pins s σ H E I hf st hg
    subst hP hw hK
    obtain ⟨⟨old, he⟩, hit, hne⟩ := st
    obtain ⟨xs, x, hq, hx⟩ := hg
    obtain ⟨its, rv, p, hz⟩ := I.list hq
    obtain ⟨u, hu, ru⟩ := rv.get hx
    have hel : e < s.heap.objs.size := Heap.lt_size he
    have hil : it < s.heap.objs.size := by obtain ⟨_, q, _⟩ := hit; exact Heap.lt_size q
    refine wpAny_pyNext_enum_item he hit p.isList (x := u) (by simpa using hu) hne fun h' ho hit' hT hsz hk => ?_
    refine ⟨_, rfl, wpAny_letOwnedTupleGo_enum (s := { s with heap := h', toks := s.toks + 1 }) ho fun h'' he' sb => ?_⟩
    have hT2 : h''.get? s.heap.objs.size = some { cls := .type "tuple", data := .seq #[.int i s.toks, u] } := (sb.2 _ (Nat.ne_of_gt hel)).trans hT
    have new : ObjOk X.prog X.w (upd H s.heap.objs.size (.tup [.int (i : Nat), x])) h'' s.heap.objs.size (.tup [.int (i : Nat), x]) :=
      ⟨by show 2 ≤ sizeLine; decide, [.int i s.toks, u], .cons ⟨_, rfl⟩ (.cons ru .nil), ⟨_, hT2, rfl, _, rfl⟩⟩
    have I1 : Inv X pins σ (upd H s.heap.objs.size (.tup [.int (i : Nat), x])) { s with heap := h'', toks := s.toks + 1 } :=
      I.turnedNew (ch := [e, it]) (fun b ob hb q => (sb.2 b (fun z => hb (by simp [z]))).trans (hk b ob (fun z => hb (by simp [z])) (fun z => hb (by simp [z])) q)) hf (Nat.le_refl _) new
    refine ⟨.ref s.heap.objs.size, _, I1, rfl, ⟨_, x, rfl, I.hok.fresh (Nat.le_refl _), rfl, fun ys hy => by rw [I.list_inj hy hq]; exact hx⟩, ⟨⟨u, ?_⟩, hit'.at fun o q => (sb.2 it (Ne.symm hne)).trans q, hne⟩, fun b hb => ?_⟩
    · have e1 : ((i + 1 : Nat) : Int) = (i : Int) + 1 := by omega
      rw [e1]; exact he'
    · have hb' : b < s.heap.objs.size := by
        have e' : b = e ∨ b = it := by simpa using hb
        rcases e' with z | z
        · rw [z]; exact hel
        · rw [z]; exact hil
      rw [upd_ne (Nat.ne_of_lt hb')]
      exact (hf b hb).1
  done := by
    intro X hP hw hK hc i pins s σ H E I hf st hg
    subst hP hw hK
    obtain ⟨⟨old, he⟩, hit, hne⟩ := st
    obtain ⟨xs, hq, hx⟩ := hg
    obtain ⟨its, rv, p, hz⟩ := I.list hq
    obtain ⟨f0, f1, f2, f3, f4, f5⟩ := hf it (by simp)
    have hl := rv.length
    exact wpAny_pyNext_enum_end (I.ok.hd hc) he hit p.isList (by simp; omega) fun h' eb => ⟨rfl, I.turned (t' := s.toks) (fun b o hb q => eb b o hb q) f0 f1 f3 f4 f5⟩
  self := fun A i s Q E st h => let ⟨⟨_, he⟩, _⟩ := st; wpAny_pyIter_enum he h
def iEnum (K : PySem.W.Frag) (ta : TA) : TI := fun σ H R => ta σ H fun vs H1 => ∃ a xs, vs = [.ref a] ∧ SqL K H1 a xs ∧ R (Ite K a) H1
theorem pi_enum {X : Cx} {e : Expr} {ta : TA} {p pos tpos : Pos} {elts : List Expr} {kk : Nat} (hg : Gl X "enumerate") (hm : X.mg "enumerate" = none) (ha : PA X [e] ta) (hs : starEach [e] X.env = [(false, eval e X.env)] := by rfl) :
    PI X (.Tuple elts kk tpos) (.Call (.Name "enumerate" p) [e] [] pos) (iEnum X.K ta) := by
  intro pins s σ H R I h
  refine Call_ (ld_blt I hg hm boot_enumerate (PyProof.Rows.callWith_type1 (thn (ha pos pins s σ H _ I h) fun us s1 ⟨vs, H1, I1, r1, q1⟩ => ?_) hs rfl))
  obtain ⟨a, xs, ex, hq, q⟩ := q1
  subst ex
  cases r1 with
  | cons r rr =>
    cases rr
    cases r
    obtain ⟨its, rv, p', hz⟩ := I1.list hq
    refine call_enumerate_list p'.isList fun h' he hit hsz hk => wpAny_pyIter_enum he ?_
    have I2 : Inv X pins σ H1 { s1 with heap := h' } := I1.kept (t' := s1.toks) hk
    refine ⟨s1.heap.objs.size + 1, [s1.heap.objs.size + 1, s1.heap.objs.size], _, _, H1, rfl, I2, turn_enum a (s1.heap.objs.size + 1) s1.heap.objs.size, ⟨⟨.none, he⟩, hit, Nat.succ_ne_self _⟩, fun b hb => ?_, q⟩
    have e' : b = s1.heap.objs.size + 1 ∨ b = s1.heap.objs.size := by simpa using hb
    have hle : s1.heap.objs.size ≤ b := by
      rcases e' with z | z
      · rw [z]; exact Nat.le_add_right _ _
      · rw [z]; exact Nat.le_refl _
    exact I1.fpOk hle (I1.hok.fresh hle)
end L2
section 
namespace Bits
open PySem PyProof.Rows
end Bits
end 
section 
namespace TL
open PySem PySem.Builtin PySem.Builtin.Str PySem.StrLaws
end TL
end 
namespace L2
open PySem PySem.Spec PyProof.Rows
section
variable {X : Cx} {pins : List (Addr × Obj)} {σ : St} {H : Hp} {s : Shared} {Q : VK}
end
section
variable {X : Cx}
end
section
variable {X : Cx} {o e : Expr} {to te : TE}
end
end L2
namespace L2
open PySem PySem.Spec PyProof.Rows
section
variable {X : Cx}
end
end L2
namespace Att
open PySem PySem.W PySem.Calls PyProof.Rows
section
variable {prog : Program} {w : World} {A : Around} {E : Value → Shared → Prop} {s : Shared} {K : Frag}
end
end Att
namespace L2
open PySem PySem.Spec PyProof.Rows
end L2
namespace L2
open PySem PySem.Spec PyProof.Rows
end L2
namespace L2
open PySem PySem.Spec PyProof.Rows
def inClass (s : Stmt) (j : Nat) : Stmt := match s with
  | .ClassDef _ _ _ body _ _ _ _ _ _ _ => body.getD j (.Pass ⟨0, 0, 0, 0⟩)
  | _ => .Pass ⟨0, 0, 0, 0⟩
def defArgs (s : Stmt) : Arguments := match s with
  | .FunctionDef _ a _ _ _ _ _ _ _ _ => a
  | _ => { posonlyargs := [], args := [], vararg := none, kwonlyargs := [], kw_defaults := [], kwarg := none, defaults := [] }
def defBody (s : Stmt) : List Stmt := match s with
  | .FunctionDef _ _ b _ _ _ _ _ _ _ => b
  | _ => []
def defScope (s : Stmt) : Scope := match s with
  | .FunctionDef _ _ _ _ _ _ sc _ _ _ => sc
  | _ => { kind := .function, names := [], isGenerator := false, isCoroutine := false }
abbrev CX0 : CXT := fun _ _ _ _ _ _ => False
abbrev E0 : XK := fun _ _ _ => False
theorem pass0 {X : Cx} : Passes CX0 X E0 := fun _ _ _ _ _ _ _ h => h.elim
structure Fun (K : PySem.W.Frag) (x qual : Str) (st : Stmt) (f : Addr) (fd : FuncData) : Prop where
  ex : ∃ (oc : Value) (od : Option Addr) (kV doc pm : Value) (an : Option Addr) (cdv ct : Value) (osl : Array (Option Value)),
    fd = PySem.W.fnOf x qual (defArgs st) (defBody st) (defScope st) .none kV doc pm an cdv ct ∧ K.lookup f = some ⟨oc, od, .func fd, osl⟩ ∧ PySem.W.codeIn K cdv qual = true
  kp : PySem.W.keepIn K (.ref f) = true
section
variable {P : Program} {w : World} {K : PySem.W.Frag} {mg : Str → Option Value} {base : Heap}
theorem Fun.ok {x qual : Str} {st : Stmt} {f : Addr} {fd : FuncData} {N ps : List Str} {k : Nat} {sp : Sp} (F : Fun K x qual st f fd) (S : FnScope N ps (defScope st)) (len : ∀ vs H Q E, sp vs H Q E → vs.length = ps.length)
    (hbody : ∀ (cdv : Value) (A : Around) (outer : List Env) (s : Shared) (H : Hp) (vs : List V) (Q : VK) (E : XK), Room k (A.deeper (envOfC qual (defScope st) s.heap.objs.size f cdv)) → sp vs H Q E →
      ∃ t, PSs (cxOf CX0 P w K mg base N qual (defScope st) f cdv A outer s H E).nox (defBody st) t ∧ t { nx := fun _ H' => Q .non H', rt := Q } (start N vs) H) : FnOk P w K mg base CX0 (k + 1) f fd ps sp := by
  obtain ⟨oc, od, kV, doc, pm, an, cdv, ct, osl, rfl, lk, hcd⟩ := F.ex
  refine fn_of lk hcd S len fun A outer s H vs Q E hr hsp => ?_
  obtain ⟨t, h, q⟩ := hbody cdv A outer s H vs Q E hr hsp
  exact ⟨t, h.nox, q⟩
theorem Fun.binds {x qual : Str} {st : Stmt} {f : Addr} {fd : FuncData} {ps : List Str} (F : Fun K x qual st f fd)
    (h : ∀ (kV doc pm : Value) (an : Option Addr) (cdv ct : Value) (us : List Value), us.length = ps.length → bindArgs (PySem.W.fnOf x qual (defArgs st) (defBody st) (defScope st) .none kV doc pm an cdv ct) ⟨us, []⟩ = pure (ps.zip us)) : Binds K fd ps [] := by
  obtain ⟨oc, od, kV, doc, pm, an, cdv, ct, osl, rfl, lk, hcd⟩ := F.ex
  exact .all (h kV doc pm an cdv ct)
theorem fun_mk {x qual : Str} {st : Stmt} {f : Addr} {oc : Value} {od an : Option Addr} {osl : Array (Option Value)} {kV doc pm cdv ct : Value} (l : K.lookup f = some ⟨oc, od, .func (PySem.W.fnOf x qual (defArgs st) (defBody st) (defScope st) .none kV doc pm an cdv ct), osl⟩)
    (c : PySem.W.codeIn K cdv qual = true) (k : PySem.W.keepIn K (.ref f) = true) : Fun K x qual st f (PySem.W.fnOf x qual (defArgs st) (defBody st) (defScope st) .none kV doc pm an cdv ct) := ⟨⟨oc, od, kV, doc, pm, an, cdv, ct, osl, rfl, l, c⟩, k⟩
end
section
variable {X : Cx}
theorem pv (i : Nat) {x : Str} {pos : Pos} (hN : X.N[i]? = some x := by rfl) (hv : Vis X.env.scope x := by first | exact Or.inl rfl | exact Or.inr (Or.inl rfl) | exact Or.inr (Or.inr rfl)) (hd : (x == ("__debug__" : Str)) = false := by decide)
    (hcd : (x == ("__classdict__" : Str)) = false := by decide) : PE X (.Name x pos) (tVar i) := pe_var hN hv hd hcd
end
theorem iteF {A B : Prop} (h : B) : if false = true then A else B := by
  rw [if_neg Bool.false_ne_true]
  exact h
theorem iteT {A B : Prop} (h : A) : if true = true then A else B := by
  rw [if_pos rfl]
  exact h
def Same (H H' : Hp) : Prop := ∀ b o, H b = some o → H' b = some o
theorem Same.refl (H : Hp) : Same H H := fun _ _ h => h
theorem Same.trans {H H1 H2 : Hp} (a : Same H H1) (b : Same H1 H2) : Same H H2 := fun c o h => b c o (a c o h)
theorem Same.free {H H' : Hp} (e : Same H H') {l : Addr} (h : H' l = Option.none) : H l = Option.none := by
  cases q : H l with
  | none => rfl
  | some o =>
    rw [e l o q] at h
    cases h
theorem Same.seq {K : PySem.W.Frag} {H H' : Hp} {a : Addr} {xs : List V} (e : Same H H') (h : SqL K H a xs) : SqL K H' a xs := by
  rcases h with (h | ⟨o, h⟩) | h
  · exact .inl (.inl (e _ _ h))
  · exact .inl (.inr ⟨o, e _ _ h⟩)
  · exact .inr h
section
variable {κ : Type} [DecidableEq κ]
end
theorem at_of {xs : List V} {z : Int} {j : Nat} {v : V} (e : z = (j : Int)) (h : xs[j]? = some v) : atI xs z = some v := by
  rw [e]
  exact atI_nat h
end L2
section
set_option Elab.async false
set_option linter.all false
set_option maxRecDepth 100000
set_option maxHeartbeats 2000000
namespace L2
open PySem PySem.Spec PyProof.Rows
open PySem.W (WData Codec OpenSpec Well WellAll ReadsW ReadsAllW)
mutual
inductive Dw (K : PySem.W.Frag) (H : Hp) : V → WData → Prop
  | non : Dw K H .non .none
  | bl (b : Bool) : Dw K H (.bl b) (.bool b)
  | int (i : Int) : Dw K H (.int i) (.int i)
  | str (x : Str) : Dw K H (.str x) (.str x)
  | byt (b : Array UInt8) : Dw K H (.byt b) (.bytes b.toList)
  | lst {a : Addr} {xs : List V} {ds : List WData} : SqL K H a xs → DwAll K H xs ds → Dw K H (.ref a) (.list ds)
  | tup {a : Addr} {xs : List V} {ds : List WData} : SqT K H a xs → DwAll K H xs ds → Dw K H (.ref a) (.tuple ds)
inductive DwAll (K : PySem.W.Frag) (H : Hp) : List V → List WData → Prop
  | nil : DwAll K H [] []
  | cons {v : V} {vs : List V} {d : WData} {ds : List WData} : Dw K H v d → DwAll K H vs ds → DwAll K H (v :: vs) (d :: ds)
end
theorem dw_ints {K : PySem.W.Frag} {H : Hp} : ∀ ns : List Int, DwAll K H (ns.map V.int) (ns.map WData.int)
  | [] => .nil
  | n :: r => .cons (.int n) (dw_ints r)
theorem ints_dw {K : PySem.W.Frag} {H : Hp} : ∀ (ns : List Int) (xs : List V), DwAll K H xs (ns.map WData.int) → xs = ns.map V.int
  | [], xs, h => by
    cases h
    rfl
  | n :: r, xs, h => by
    cases h with
    | cons h1 h2 =>
      cases h1
      rw [ints_dw r _ h2] <;> rfl
section
variable {P : Program} {w : World} {K : PySem.W.Frag} {H : Hp} {h : Heap} {R : PySem.W.WRecords} {cl : Str → Option Addr}
theorem sqL_at {a : Addr} {xs : List V} (hok : HOk P w H h) (KX : K.In h) (q : SqL K H a xs) : ∃ (its : List Value) (o : Obj) (n : Nat), Vals xs its ∧ h.get? a = some o ∧ o.cls = .type "list" ∧ o.data = .seq its.toArray n := by
  rcases q with q | ⟨o, its, n, e, hc, _, hd, _, hv⟩
  · obtain ⟨_, its, n, hv, e⟩ := (show ObjOk P w H h a (.lst xs) from q.ok hok)
    exact ⟨its, _, n, hv, e, rfl, rfl⟩
  · exact ⟨its.toList, o, n, hv, KX _ _ e, hc, by simp [hd]⟩
theorem sqT_at {a : Addr} {xs : List V} (hok : HOk P w H h) (KX : K.In h) (q : SqT K H a xs) : ∃ (its : List Value) (o : Obj) (n : Nat), Vals xs its ∧ h.get? a = some o ∧ o.cls = .type "tuple" ∧ o.data = .seq its.toArray n := by
  rcases q with q | ⟨o, its, n, e, hc, hd, _, hv⟩
  · obtain ⟨_, its, hv, o, e, hc, n, hd⟩ := (show ObjOk P w H h a (.tup xs) from q.ok hok)
    exact ⟨its, o, n, hv, e, hc, hd⟩
  · exact ⟨its.toList, o, n, hv, KX _ _ e, hc, by simp [hd]⟩
mutual
theorem Dw.reads (hok : HOk P w H h) (KX : K.In h) : ∀ (d : WData) (v : V) (u : Value), Dw K H v d → RelV v u → ∃ as, ReadsW R cl h u d as
  | .none, _, _, x, r => by
    cases x
    cases r
    exact ⟨_, ReadsW.none⟩
  | .bool b, _, _, x, r => by
    cases x
    cases r
    exact ⟨_, ReadsW.bool b⟩
  | .int i, _, _, x, r => by
    cases x
    obtain ⟨t, rfl⟩ := r
    exact ⟨_, ReadsW.int i t⟩
  | .str s, _, _, x, r => by
    cases x
    obtain ⟨t, rfl⟩ := r
    exact ⟨_, ReadsW.str s t⟩
  | .bytes b, _, _, x, r => by
    cases x
    obtain ⟨t, rfl⟩ := r
    exact ⟨_, ReadsW.bytes _ t⟩
  | .list ds, _, _, x, r => by
    cases x with
    | lst hs ha =>
      cases r
      obtain ⟨its, o, n, rv, ho, hc, hd⟩ := sqL_at hok KX hs
      obtain ⟨as, hr⟩ := Dw.readsAll hok KX ds _ its ha rv
      exact ⟨_, ReadsW.list ho hc hd hr⟩
  | .tuple ds, _, _, x, r => by
    cases x with
    | tup hs ha =>
      cases r
      obtain ⟨its, o, n, rv, ho, hc, hd⟩ := sqT_at hok KX hs
      obtain ⟨as, hr⟩ := Dw.readsAll hok KX ds _ its ha rv
      exact ⟨_, ReadsW.tuple ho hc hd hr⟩
  | .float _, _, _, x, _ => by cases x
  | .dict _, _, _, x, _ => by cases x
  | .bytearray _, _, _, x, _ => by cases x
  | .set _, _, _, x, _ => by cases x
  | .frozenset _, _, _, x, _ => by cases x
  | .obj _ _, _, _, x, _ => by cases x
theorem Dw.readsAll (hok : HOk P w H h) (KX : K.In h) : ∀ (ds : List WData) (vs : List V) (us : List Value), DwAll K H vs ds → Vals vs us → ∃ as, ReadsAllW R cl h us ds as
  | [], _, _, x, r => by
    cases x
    cases r
    exact ⟨_, ReadsAllW.nil⟩
  | d :: ds, _, _, x, r => by
    cases x with
    | cons h1 h2 =>
      cases r with
      | cons r1 r2 =>
        obtain ⟨as, q1⟩ := Dw.reads hok KX d _ _ h1 r1
        obtain ⟨bs, q2⟩ := Dw.readsAll hok KX ds _ _ h2 r2
        exact ⟨_, ReadsAllW.cons q1 q2⟩
end
end
mutual
def plW : WData → Bool
  | .none => true
  | .bool _ => true
  | .int _ => true
  | .str _ => true
  | .bytes _ => true
  | .list xs => plWs xs
  | .tuple xs => plWs xs
  | _ => false
def plWs : List WData → Bool
  | [] => true
  | x :: r => plW x && plWs r
end
theorem plWs_map {α : Type} {f : α → WData} (h : ∀ a, plW (f a) = true) : ∀ l : List α, plWs (l.map f) = true
  | [] => rfl
  | x :: r => by
    show (plW (f x) && plWs (r.map f)) = true
    rw [h x, plWs_map h r] <;> rfl
theorem pl_enc : ∀ (c : Codec) (a : c.denote), plW (c.enc a) = true
  | .unit, _ => rfl
  | .bool, _ => rfl
  | .int _ _, _ => rfl
  | .nat _ _, _ => rfl
  | .u8, _ => rfl
  | .bytes _ _, _ => rfl
  | .text _ _ _ _, _ => rfl
  | .list _ _ c, a => plWs_map (fun x => pl_enc c x) a
  | .pair c d, a => by
    show (plW (c.enc a.1) && (plW (d.enc a.2) && true)) = true
    rw [pl_enc c a.1, pl_enc d a.2] <;> rfl
  | .triple c d e, a => by
    show (plW (c.enc a.1) && (plW (d.enc a.2.1) && (plW (e.enc a.2.2) && true))) = true
    rw [pl_enc c a.1, pl_enc d a.2.1, pl_enc e a.2.2] <;> rfl
  | .option c, none => rfl
  | .option c, some x => pl_enc c x
theorem pl_encAll : ∀ (cs : List Codec) (a : Codec.denoteAll cs), plWs (Codec.encAll cs a) = true
  | [], _ => rfl
  | c :: cs, a => by
    show (plW (c.enc a.1) && plWs (Codec.encAll cs a.2)) = true
    rw [pl_enc c a.1, pl_encAll cs a.2] <;> rfl
theorem weight_mem : ∀ {xs : List WData} {d : WData}, d ∈ xs → d.weight ≤ WData.weightAll xs
  | [], d, h => absurd h (by simp)
  | x :: r, d, h => by
    show d.weight ≤ x.weight + 1 + WData.weightAll r
    rcases List.mem_cons.mp h with e | m
    · rw [e]
      omega
    · have z := weight_mem m
      omega
def toV : Value → V
  | .none => .non
  | .bool b => .bl b
  | .int i _ => .int i
  | .str x _ => .str x
  | .bytes b _ => .byt b
  | .ref a => .ref a
  | _ => .non
def OkU (A : List Addr) : Value → Prop
  | .none => True
  | .bool _ => True
  | .int _ _ => True
  | .str _ _ => True
  | .bytes _ _ => True
  | .ref a => a ∈ A
  | _ => False
theorem OkU.mono {A B : List Addr} (h : ∀ a ∈ A, a ∈ B) : ∀ {u : Value}, OkU A u → OkU B u := fun {u} x => by
  cases u with
  | ref a => exact h a x
  | none => trivial
  | bool b => trivial
  | int i t => trivial
  | str s t => trivial
  | bytes b t => trivial
  | _ => exact False.elim x
theorem relV_toV {A : List Addr} {u : Value} (x : OkU A u) : RelV (toV u) u := by
  cases u with
  | ref a => rfl
  | none => rfl
  | bool b => rfl
  | int i t => exact ⟨t, rfl⟩
  | str s t => exact ⟨t, rfl⟩
  | bytes b t => exact ⟨t, rfl⟩
  | _ => exact False.elim x
theorem vals_toV {A : List Addr} : ∀ {vs : List Value}, (∀ u ∈ vs, OkU A u) → Vals (vs.map toV) vs
  | [], _ => .nil
  | u :: r, h => .cons (relV_toV (h u (List.mem_cons_self ..))) (vals_toV fun x hx => h x (List.mem_cons_of_mem _ hx))
def ArgOb (h : Heap) (A : List Addr) (a : Addr) : Prop := ∃ vs : List Value, vs.length ≤ sizeLine ∧ (∀ u ∈ vs, OkU A u) ∧
  (h.get? a = some { cls := .type "list", data := .seq vs.toArray } ∨ h.get? a = some { cls := .type "tuple", data := .seq vs.toArray })
theorem ArgOb.mono {h : Heap} {A B : List Addr} {a : Addr} (k : ∀ a ∈ A, a ∈ B) (x : ArgOb h A a) : ArgOb h B a := by
  obtain ⟨vs, h1, h2, h3⟩ := x
  exact ⟨vs, h1, fun u hu => (h2 u hu).mono k, h3⟩
theorem wellAll_len {P : Params} {h : Heap} : ∀ {vs : List Value} {ds : List WData}, WellAll P h vs ds → vs.length = ds.length
  | _, _, .nil => rfl
  | _, _, .cons _ b => by
    show _ + 1 = _ + 1
    rw [wellAll_len b]
theorem well_list {P : Params} {h : Heap} {v : Value} {ds : List WData} (x : Well P h v (.list ds)) : ∃ (a : Addr) (vs : List Value), v = .ref a ∧ h.get? a = some { cls := .type "list", data := .seq vs.toArray } ∧ WellAll P h vs ds := by
  cases x with
  | list ho hall => exact ⟨_, _, rfl, ho, hall⟩
theorem well_tuple {P : Params} {h : Heap} {v : Value} {ds : List WData} (x : Well P h v (.tuple ds)) : ∃ (a : Addr) (vs : List Value), v = .ref a ∧ h.get? a = some { cls := .type "tuple", data := .seq vs.toArray } ∧ WellAll P h vs ds := by
  cases x with
  | tuple ho hall => exact ⟨_, _, rfl, ho, hall⟩
theorem well_cons {P : Params} {h : Heap} {us : List Value} {d : WData} {ds : List WData} (x : WellAll P h us (d :: ds)) : ∃ (v : Value) (vs : List Value), us = v :: vs ∧ Well P h v d ∧ WellAll P h vs ds := by
  cases x with
  | cons a b => exact ⟨_, _, rfl, a, b⟩
theorem line_of {n : Nat} (h : n ≤ 1048576) : n ≤ sizeLine := Nat.le_trans h (by decide)
section
variable {P : Params} {h : Heap}
mutual
theorem area_one : ∀ (d : WData) (v : Value), Well P h v d → plW d = true → d.weight ≤ 1048576 → ∃ A : List Addr, OkU A v ∧ ∀ a ∈ A, ArgOb h A a
  | .none, _, x, _, _ => by
    cases x
    exact ⟨[], trivial, fun a m => absurd m (by simp)⟩
  | .bool b, _, x, _, _ => by
    cases x
    exact ⟨[], trivial, fun a m => absurd m (by simp)⟩
  | .int i, _, x, _, _ => by
    cases x
    exact ⟨[], trivial, fun a m => absurd m (by simp)⟩
  | .str s, _, x, _, _ => by
    cases x
    exact ⟨[], trivial, fun a m => absurd m (by simp)⟩
  | .bytes b, _, x, _, _ => by
    cases x
    exact ⟨[], trivial, fun a m => absurd m (by simp)⟩
  | .list ds, _, x, p, z => by
    obtain ⟨a, vs, rfl, ho, hall⟩ := well_list x
    have z2 : WData.weightAll ds ≤ 1048576 := z
    obtain ⟨A, h1, h2⟩ := area_all ds _ hall p fun d hd => Nat.le_trans (weight_mem hd) z2
    have k : ∀ b ∈ A, b ∈ a :: A := fun b hb => List.mem_cons_of_mem _ hb
    refine ⟨a :: A, List.mem_cons_self .., fun b hb => ?_⟩
    rcases List.mem_cons.mp hb with e | m
    · rw [e]
      exact ⟨vs, line_of (by rw [wellAll_len hall]; exact Nat.le_trans (PySem.W.length_le_weightAllW ds) z2), fun u hu => (h1 u hu).mono k, .inl ho⟩
    · exact (h2 b m).mono k
  | .tuple ds, _, x, p, z => by
    obtain ⟨a, vs, rfl, ho, hall⟩ := well_tuple x
    have z2 : WData.weightAll ds ≤ 1048576 := z
    obtain ⟨A, h1, h2⟩ := area_all ds _ hall p fun d hd => Nat.le_trans (weight_mem hd) z2
    have k : ∀ b ∈ A, b ∈ a :: A := fun b hb => List.mem_cons_of_mem _ hb
    refine ⟨a :: A, List.mem_cons_self .., fun b hb => ?_⟩
    rcases List.mem_cons.mp hb with e | m
    · rw [e]
      exact ⟨vs, line_of (by rw [wellAll_len hall]; exact Nat.le_trans (PySem.W.length_le_weightAllW ds) z2), fun u hu => (h1 u hu).mono k, .inr ho⟩
    · exact (h2 b m).mono k
  | .float _, _, _, p, _ => Bool.noConfusion (show false = true from p)
  | .dict _, _, _, p, _ => Bool.noConfusion (show false = true from p)
  | .bytearray _, _, _, p, _ => Bool.noConfusion (show false = true from p)
  | .set _, _, _, p, _ => Bool.noConfusion (show false = true from p)
  | .frozenset _, _, _, p, _ => Bool.noConfusion (show false = true from p)
  | .obj _ _, _, _, p, _ => Bool.noConfusion (show false = true from p)
theorem area_all : ∀ (ds : List WData) (vs : List Value), WellAll P h vs ds → plWs ds = true → (∀ d ∈ ds, d.weight ≤ 1048576) → ∃ A : List Addr, (∀ u ∈ vs, OkU A u) ∧ ∀ a ∈ A, ArgOb h A a
  | [], _, x, _, _ => by
    cases x
    exact ⟨[], fun u m => absurd m (by simp), fun a m => absurd m (by simp)⟩
  | d :: ds, _, x, p, z => by
    obtain ⟨v, vs, rfl, x1, x2⟩ := well_cons x
    have q : plW d = true ∧ plWs ds = true := Bool.and_eq_true_iff.mp p
    obtain ⟨A, a1, a2⟩ := area_one d v x1 q.1 (z d (List.mem_cons_self ..))
    obtain ⟨B, b1, b2⟩ := area_all ds vs x2 q.2 fun e he => z e (List.mem_cons_of_mem _ he)
    have kA : ∀ b ∈ A, b ∈ A ++ B := fun b hb => List.mem_append.mpr (.inl hb)
    have kB : ∀ b ∈ B, b ∈ A ++ B := fun b hb => List.mem_append.mpr (.inr hb)
    refine ⟨A ++ B, fun u hu => ?_, fun b hb => ?_⟩
    · rcases List.mem_cons.mp hu with e | m
      · rw [e]
        exact a1.mono kA
      · exact (b1 u m).mono kB
    · rcases List.mem_append.mp hb with m | m
      · exact (a2 b m).mono kA
      · exact (b2 b m).mono kB
end
end
def hoOf (o : Obj) : Option HO := match o.data with
  | .seq vs _ => if (o.cls == Value.type "list") = true then some (.frz o (.lst (vs.toList.map toV))) else some (.frz o (.tup (vs.toList.map toV)))
  | _ => none
def argH (K : PySem.W.Frag) (h : Heap) (A : List Addr) : Hp := fun b => if b ∈ A then (if (K.lookup b).isNone = true then (h.get? b).bind hoOf else none) else none
def OnlyF (H : Hp) : Prop := ∀ b, H b = none ∨ ∃ o u, H b = some (.frz o u)
theorem hoOf_lst (vs : List Value) : hoOf { cls := .type "list", data := .seq vs.toArray } = some (.frz { cls := .type "list", data := .seq vs.toArray } (.lst (vs.map toV))) := by
  show (if (Value.type "list" == Value.type "list") = true then some (HO.frz { cls := .type "list", data := .seq vs.toArray } (.lst (vs.toArray.toList.map toV))) else some (HO.frz { cls := .type "list", data := .seq vs.toArray } (.tup (vs.toArray.toList.map toV)))) = _
  rw [if_pos (beq_self_eq_true _)]
theorem hoOf_tup (vs : List Value) : hoOf { cls := .type "tuple", data := .seq vs.toArray } = some (.frz { cls := .type "tuple", data := .seq vs.toArray } (.tup (vs.map toV))) := by
  show (if (Value.type "tuple" == Value.type "list") = true then some (HO.frz { cls := .type "tuple", data := .seq vs.toArray } (.lst (vs.toArray.toList.map toV))) else some (HO.frz { cls := .type "tuple", data := .seq vs.toArray } (.tup (vs.toArray.toList.map toV)))) = _
  rw [if_neg (by decide)]
section
variable {P : Program} {w : World} {K : PySem.W.Frag} {h : Heap} {A : List Addr}
theorem argH_at {b : Addr} {o : Obj} (hb : b ∈ A) (hk : K.lookup b = none) (e : h.get? b = some o) : argH K h A b = hoOf o := by
  unfold argH
  rw [if_pos hb, hk, if_pos (show (none : Option Obj).isNone = true from rfl), e] <;> rfl
theorem of_argH {b : Addr} {u : HO} (q : argH K h A b = some u) : b ∈ A ∧ K.lookup b = none := by
  unfold argH at q
  by_cases hb : b ∈ A
  · rw [if_pos hb] at q
    cases hk : K.lookup b with
    | none => exact ⟨hb, rfl⟩
    | some o =>
      rw [hk, if_neg (by simp)] at q
      cases q
  · rw [if_neg hb] at q
    cases q
theorem argH_is (ar : ∀ a ∈ A, ArgOb h A a) {b : Addr} {u : HO} (q : argH K h A b = some u) : K.lookup b = none ∧ ∃ vs : List Value, vs.length ≤ sizeLine ∧ (∀ u ∈ vs, OkU A u) ∧
    ((h.get? b = some { cls := .type "list", data := .seq vs.toArray } ∧ u = .frz { cls := .type "list", data := .seq vs.toArray } (.lst (vs.map toV))) ∨
     (h.get? b = some { cls := .type "tuple", data := .seq vs.toArray } ∧ u = .frz { cls := .type "tuple", data := .seq vs.toArray } (.tup (vs.map toV)))) := by
  obtain ⟨hb, hk⟩ := of_argH q
  obtain ⟨vs, h1, h2, h3⟩ := ar b hb
  refine ⟨hk, vs, h1, h2, ?_⟩
  rcases h3 with e | e
  · rw [argH_at hb hk e, hoOf_lst] at q
    exact .inl ⟨e, (Option.some.inj q).symm⟩
  · rw [argH_at hb hk e, hoOf_tup] at q
    exact .inr ⟨e, (Option.some.inj q).symm⟩
theorem argH_only (ar : ∀ a ∈ A, ArgOb h A a) : OnlyF (argH K h A) := fun b => by
  cases q : argH K h A b with
  | none => exact .inl rfl
  | some u =>
    obtain ⟨_, vs, _, _, ⟨_, e⟩ | ⟨_, e⟩⟩ := argH_is ar q
    · exact .inr ⟨_, _, by rw [e]⟩
    · exact .inr ⟨_, _, by rw [e]⟩
theorem argH_ok (ar : ∀ a ∈ A, ArgOb h A a) : HOk P w (argH K h A) h := fun b u q => by
  obtain ⟨_, vs, h1, h2, ⟨e, rfl⟩ | ⟨e, rfl⟩⟩ := argH_is ar q
  · exact ⟨e, by rw [List.length_map]; exact h1, vs, _, vals_toV h2, e⟩
  · exact ⟨e, by rw [List.length_map]; exact h1, vs, vals_toV h2, _, e, rfl, _, rfl⟩
theorem seq_inj {c c' : Value} {vs us : List Value} (e : (some { cls := c, data := .seq vs.toArray } : Option Obj) = some { cls := c', data := .seq us.toArray }) : c = c' ∧ vs = us := by
  have e1 := Option.some.inj e
  have e2 : c = c' := congrArg Obj.cls e1
  have e3 : Data.seq vs.toArray = Data.seq us.toArray := congrArg Obj.data e1
  injection e3 with e4
  refine ⟨e2, ?_⟩
  have e5 := congrArg Array.toList e4
  simpa using e5
theorem argL (KX : K.In h) (ar : ∀ a ∈ A, ArgOb h A a) {a : Addr} {vs : List Value} (ha : a ∈ A) (e : h.get? a = some { cls := .type "list", data := .seq vs.toArray }) : (∀ u ∈ vs, OkU A u) ∧ SqL K (argH K h A) a (vs.map toV) := by
  obtain ⟨us, h1, h2, h3⟩ := ar a ha
  have hu : us = vs := by
    rcases h3 with q | q
    · rw [e] at q
      exact (seq_inj q).2.symm
    · rw [e] at q
      exact absurd (Value.type.inj (seq_inj q).1) (by decide)
  subst hu
  refine ⟨h2, ?_⟩
  cases hk : K.lookup a with
  | none => exact .inl (.inr ⟨_, by rw [argH_at ha hk e, hoOf_lst]⟩)
  | some o =>
    have e2 := KX a o hk
    rw [e] at e2
    obtain rfl := Option.some.inj e2
    exact .inr ⟨_, us.toArray, _, hk, rfl, rfl, rfl, by rw [List.size_toArray]; exact h1, by simpa using vals_toV h2⟩
theorem argT (KX : K.In h) (ar : ∀ a ∈ A, ArgOb h A a) {a : Addr} {vs : List Value} (ha : a ∈ A) (e : h.get? a = some { cls := .type "tuple", data := .seq vs.toArray }) : (∀ u ∈ vs, OkU A u) ∧ SqT K (argH K h A) a (vs.map toV) := by
  obtain ⟨us, h1, h2, h3⟩ := ar a ha
  have hu : us = vs := by
    rcases h3 with q | q
    · rw [e] at q
      exact absurd (Value.type.inj (seq_inj q).1) (by decide)
    · rw [e] at q
      exact (seq_inj q).2.symm
  subst hu
  refine ⟨h2, ?_⟩
  cases hk : K.lookup a with
  | none => exact .inl (.inr ⟨_, by rw [argH_at ha hk e, hoOf_tup]⟩)
  | some o =>
    have e2 := KX a o hk
    rw [e] at e2
    obtain rfl := Option.some.inj e2
    exact .inr ⟨_, us.toArray, _, hk, rfl, rfl, by rw [List.size_toArray]; exact h1, by simpa using vals_toV h2⟩
mutual
theorem dw_one {Pm : Params} (KX : K.In h) (ar : ∀ a ∈ A, ArgOb h A a) : ∀ (d : WData) (v : Value), Well Pm h v d → plW d = true → OkU A v → Dw K (argH K h A) (toV v) d
  | .none, _, x, _, _ => by
    cases x
    exact .non
  | .bool b, _, x, _, _ => by
    cases x
    exact .bl b
  | .int i, _, x, _, _ => by
    cases x
    exact .int i
  | .str s, _, x, _, _ => by
    cases x
    exact .str s
  | .bytes b, _, x, _, _ => by
    cases x
    have z := Dw.byt (K := K) (H := argH K h A) b.toArray
    exact z
  | .list ds, _, x, p, hu => by
    obtain ⟨a, vs, rfl, ho, hall⟩ := well_list x
    obtain ⟨h2, hs⟩ := argL KX ar hu ho
    exact .lst hs (dw_all KX ar ds _ hall p h2)
  | .tuple ds, _, x, p, hu => by
    obtain ⟨a, vs, rfl, ho, hall⟩ := well_tuple x
    obtain ⟨h2, hs⟩ := argT KX ar hu ho
    exact .tup hs (dw_all KX ar ds _ hall p h2)
  | .float _, _, _, p, _ => Bool.noConfusion (show false = true from p)
  | .dict _, _, _, p, _ => Bool.noConfusion (show false = true from p)
  | .bytearray _, _, _, p, _ => Bool.noConfusion (show false = true from p)
  | .set _, _, _, p, _ => Bool.noConfusion (show false = true from p)
  | .frozenset _, _, _, p, _ => Bool.noConfusion (show false = true from p)
  | .obj _ _, _, _, p, _ => Bool.noConfusion (show false = true from p)
theorem dw_all {Pm : Params} (KX : K.In h) (ar : ∀ a ∈ A, ArgOb h A a) : ∀ (ds : List WData) (vs : List Value), WellAll Pm h vs ds → plWs ds = true → (∀ u ∈ vs, OkU A u) → DwAll K (argH K h A) (vs.map toV) ds
  | [], _, x, _, _ => by
    cases x
    exact .nil
  | d :: ds, _, x, p, hu => by
    obtain ⟨v, vs, rfl, x1, x2⟩ := well_cons x
    have q : plW d = true ∧ plWs ds = true := Bool.and_eq_true_iff.mp p
    exact .cons (dw_one KX ar d v x1 q.1 (hu _ (List.mem_cons_self ..))) (dw_all KX ar ds vs x2 q.2 fun u m => hu u (List.mem_cons_of_mem _ m))
end
end
theorem spec_call {P : Program} {w : World} {K : PySem.W.Frag} {mg mb : Str → Option Value} {CX : CXT} {k : Nat} {fa : Addr} {fd : FuncData} {ps : List Str} {sp : Sp} {s₁ : Shared} {vals : List Value} {ds : List WData} {R : PySem.W.WRecords} {cl : Str → Option Addr} {d0 : WData}
    (KX : K.In s₁.heap) (hns : s₁.heap.Ns mainGlobals mg) (hb : s₁.heap.Ns builtinsNs mb) (hbb : ∀ x : Str, x ≠ "__name__" → mb x = bootBuiltins x) (hlim : s₁.heap.NoLimit) (hg : s₁.gens = #[])
    (hwl : WellAll w.params s₁.heap vals ds) (hpl : plWs ds = true) (hwt : ∀ d ∈ ds, d.weight ≤ 1048576) (hr : Room k callerA)
    (F : ∀ base : Heap, K.In base → base.Ns mainGlobals mg → FnOk P w K mg base CX k fa fd ps sp) (hbind : ∀ (s : Shared) (us : List Value), us.length = ps.length → BindsTo s fd ⟨us, []⟩ (ps.zip us)) (hlen : ds.length = ps.length)
    (hsp : ∀ (H : Hp) (xs : List V), OnlyF H → DwAll K H xs ds → sp xs H (fun v H' => Dw K H' v d0) fun _ _ _ => False)
    (hCX : ∀ H e s', CX [] H s₁ (fun _ _ _ => False) e s' → False) :
    codeAny (model P w) callerA (.call (.ref fa) ⟨vals, []⟩) (fun r s' => ∃ u as, r = .ok (.ret u) ∧ ReadsW R cl s'.heap u d0 as ∧ OldK s₁.heap s'.heap ∧ s'.os = s₁.os ∧ AllBare s'.gens) s₁ := by
  obtain ⟨A, ho, ar⟩ := area_all ds vals hwl hpl hwt
  have hO : OnlyF (argH K s₁.heap A) := argH_only ar
  have hok : HOk P w (argH K s₁.heap A) s₁.heap := argH_ok ar
  have hS := dw_all KX ar ds vals hwl hpl ho
  have hV := vals_toV ho
  have hK : ∀ b u, argH K s₁.heap A b = some u → K.lookup b = none := fun b u q => (argH_is ar q).1
  have noA : ∀ {b : Addr} {o : Obj} {es : Array DictEntry} {ep : Nat}, s₁.heap.get? b = some o → o.data = .dict es ep → argH K s₁.heap A b = none := fun {b o es ep} e d => by
    cases q : argH K s₁.heap A b with
    | none => rfl
    | some u =>
      obtain ⟨_, vs, _, _, ⟨e2, _⟩ | ⟨e2, _⟩⟩ := argH_is ar q
      · rw [e2] at e
        cases e
        have d' : Data.seq vs.toArray _ = Data.dict es ep := d
        cases d'
      · rw [e2] at e
        cases e
        have d' : Data.seq vs.toArray _ = Data.dict es ep := d
        cases d'
  generalize argH K s₁.heap A = H at hO hok hS hK noA
  have base_of : ∀ {b : Addr} {o : Obj}, s₁.heap.get? b = some o → H b = none → (hidT s₁.heap H).get? b = some o := fun e n => hidT_get e n
  have nsK : ∀ {b : Addr} {m : Str → Option Value}, s₁.heap.Ns b m → (hidT s₁.heap H).Ns b m := fun {b m} ⟨o, es, ep, e, d, r⟩ => ⟨o, es, ep, base_of e (noA e d), d, r⟩
  have nK : ∀ b o, K.lookup b = some o → H b = none := fun b o e => by
    cases q : H b with
    | none => rfl
    | some u =>
      rw [hK b u q] at e
      cases e
  have hKb : K.In (hidT s₁.heap H) := fun b o e => base_of (KX b o e) (nK b o e)
  have hM : Mod K mg (hidT s₁.heap H) := ⟨hKb, nsK hns, ⟨mb, nsK hb, hbb⟩, let ⟨mc, h1, h2⟩ := hlim; ⟨mc, nsK h1, h2⟩⟩
  have e0 : Env0 P w K mg (hidT s₁.heap H) callerA [] s₁ H := ⟨rfl, hM, fun b o e => of_hidT e, Nat.le_of_eq (hidT_size _ _), trivial, fun b hb => absurd (show b ∈ ([] : List Addr) from hb) (by simp), hok, .of_eq hg⟩
  have hl : vals.length = ps.length := by rw [wellAll_len hwl]; exact hlen
  refine codeAny_mono ((F _ hKb (nsK hns)).run callerA [] s₁ H ⟨vals, []⟩ vals (vals.map toV) _ _ hr e0 (hbind s₁ vals hl) hV (hsp H _ hO hS)) fun r s' x => ?_
  cases r with
  | error e => exact (hCX H e s' x).elim
  | ok fl =>
    cases fl with
    | next => exact False.elim x
    | brk => exact False.elim x
    | cont => exact False.elim x
    | ret u =>
      obtain ⟨v, H', os, bare, un, hok', r', q⟩ := x
      have kept : ∀ b o, s₁.heap.get? b = some o → s'.heap.get? b = some o := fun b o e => by
        cases q2 : H b with
        | none => exact un.keep b o e q2 (by intro z; exact absurd (show b ∈ ([] : List Addr) from z) (by simp)) (by simp)
        | some u2 =>
          rcases hO b with z | ⟨ob, u3, z⟩
          · rw [q2] at z
            cases z
          · have z2 := un.frzs b ob _ z
            obtain ⟨e1, _⟩ := hok b _ z
            obtain ⟨e2, _⟩ := hok' b _ z2
            rw [e] at e1
            cases e1
            exact e2
      have KX' : K.In s'.heap := fun b o e => kept b o (KX b o e)
      obtain ⟨as, hrd⟩ := Dw.reads (R := R) (cl := cl) hok' KX' d0 v u q r'
      exact ⟨u, as, rfl, hrd, OldK.of_keep kept, os, bare⟩
theorem layable_weight {ds : List WData} (h : WData.layableAll ds = true) : ∀ d ∈ ds, d.weight ≤ 1048576 := fun d hd =>
  (PySem.W.layableW_iff.mp (List.all_eq_true.mp h d hd)).2.2
theorem encAll_len : ∀ (cs : List Codec) (a : Codec.denoteAll cs), (Codec.encAll cs a).length = cs.length
  | [], _ => rfl
  | c :: cs, a => by
    show (Codec.encAll cs a.2).length + 1 = cs.length + 1
    rw [encAll_len cs a.2]
theorem walk_spec {r : OpenSpec} {k : Nat} {q : Program} {loose : List Str} {XP : (Str → Option Value) → Heap → Prop} {YP : World → Heap → Prop} {d : DefRec} {K : Params → PySem.W.Frag} {CX : World → CXT} {ps : List Str} {sp : World → Sp}
    (hwell : r.wellSaid = true) (hdf : d.params.defaults = []) (hlen : r.args.length = ps.length) (hr : Room k callerA)
    (hY : ∀ (w : World) (h : Heap), YP w h → (K w.params).In h)
    (F : ∀ (w : World) (mg : Str → Option Value) (fa : Addr) (h : Heap), YP w h → (K w.params).In h → h.Ns mainGlobals mg → mg d.name = some (.ref fa) →
      ∃ fd : FuncData, (∀ (s : Shared) (us : List Value), us.length = ps.length → BindsTo s fd ⟨us, []⟩ (ps.zip us)) ∧
        ∀ base : Heap, (K w.params).In base → base.Ns mainGlobals mg → FnOk r.prog w (K w.params) mg base (CX w) k fa fd ps (sp w))
    (hsp : ∀ (w : World) (H : Hp) (xs : List V) (a : Codec.denoteAll r.args), OnlyF H → Codec.withinAll r.args a = true → Codec.app r.args r.asked a = true → DwAll (K w.params) H xs (Codec.encAll r.args a) →
      sp w xs H (fun v H' => Dw (K w.params) H' v (r.ret.enc (Codec.app r.args r.f a))) fun _ _ _ => False)
    (hCX : ∀ (w : World) (H : Hp) (s : Shared) (e : Value) (s' : Shared), CX w [] H s (fun _ _ _ => False) e s' → False) :
    PySem.W.WalkOS q loose XP YP r d [] (fun f vs => PySem.call f vs) := by
  intro w s_0 s₁ mg mb G Y fa o pm cd doc dV kV ho hd hcd hD hmg hg args vals as hpre hlay hrd hwl hlo
  obtain ⟨a, e1, e2⟩ := PySem.W.os_pre_some hpre
  obtain ⟨e3, hwi⟩ := Codec.encAll_of_decAll r.args args a e1
  subst e3
  have KX := hY w _ Y
  obtain ⟨fd, hb, hF⟩ := F w mg fa _ Y KX G.T.g hmg
  refine PySem.W.enter_call (codeAny_mono (spec_call (R := []) (cl := classAt s_0.heap) (d0 := r.ret.enc (Codec.app r.args r.f a)) KX G.T.g G.T.b G.T.builtins G.T.nolimit hg hwl (pl_encAll _ _) (layable_weight hlay) hr hF hb (by rw [encAll_len]; exact hlen)
    (fun H xs hO hS => hsp w H xs a hO hwi e2 hS) fun H e s' => hCX w H s₁ e s') fun r' s' hq => ?_)
  obtain ⟨u, as', rfl, h1, h2, h3, h4⟩ := hq
  exact ⟨.inl ⟨u, _, as', rfl, fun _ => rfl, h1, (OpenSpec.post_iff hwell hwi _ _).mpr rfl, fun z => Bool.noConfusion (show false = true from z)⟩, h2, h3, h4⟩
theorem walk_specK {r : OpenSpec} {k : Nat} {q : Program} {loose : List Str} {XP : (Str → Option Value) → Heap → Prop} {YP : World → Heap → Prop} {d : DefRec} {K : Params → PySem.W.Frag} {CX : CXT} {ps : List Str} {sp : PySem.W.Frag → Sp}
    (hwell : r.wellSaid = true) (hdf : d.params.defaults = []) (hlen : r.args.length = ps.length) (hr : Room k callerA)
    (hY : ∀ (w : World) (h : Heap), YP w h → (K w.params).In h)
    (F : ∀ (w : World) (mg : Str → Option Value) (fa : Addr) (h : Heap), YP w h → (K w.params).In h → h.Ns mainGlobals mg → mg d.name = some (.ref fa) →
      ∃ fd : FuncData, (∀ (s : Shared) (us : List Value), us.length = ps.length → BindsTo s fd ⟨us, []⟩ (ps.zip us)) ∧
        ∀ base : Heap, (K w.params).In base → base.Ns mainGlobals mg → FnOk r.prog w (K w.params) mg base CX k fa fd ps (sp (K w.params)))
    (hsp : ∀ (K : PySem.W.Frag) (H : Hp) (xs : List V) (a : Codec.denoteAll r.args), OnlyF H → Codec.withinAll r.args a = true → Codec.app r.args r.asked a = true → DwAll K H xs (Codec.encAll r.args a) →
      sp K xs H (fun v H' => Dw K H' v (r.ret.enc (Codec.app r.args r.f a))) fun _ _ _ => False)
    (hCX : ∀ (H : Hp) (s : Shared) (e : Value) (s' : Shared), CX [] H s (fun _ _ _ => False) e s' → False) :
    PySem.W.WalkOS q loose XP YP r d [] (fun f vs => PySem.call f vs) :=
  walk_spec (K := K) (CX := fun _ => CX) (sp := fun w => sp (K w.params)) hwell hdf hlen hr hY F (fun w H xs a h1 h2 h3 h4 => hsp (K w.params) H xs a h1 h2 h3 h4) fun _ H s e s' => hCX H s e s'
end L2
end
namespace Mn
open Sa20
def sg : Seg → List Step
  | .line a => [a]
  | .curve a b c => [a, b, c]
def triples : List Step → List (List Step)
  | a :: b :: c :: l => [a, b, c] :: triples l
  | _ => []
theorem curves_sg : ∀ l : List Step, (curves l).map sg = triples l
  | [] => rfl
  | [_] => rfl
  | [_, _] => rfl
  | a :: b :: c :: l => by
    show sg (.curve a b c) :: (curves l).map sg = [a, b, c] :: triples l
    rw [curves_sg l]; rfl
theorem lines_sg (l : List Step) : (l.map Seg.line).map sg = l.map fun s => [s] := by
  induction l with
  | nil => rfl
  | cons a l ih => simp only [List.map_cons, ih]; rfl
def fours : List Int → List (List Int)
  | a :: b :: c :: d :: l => [a, b, c, d] :: fours l
  | _ => []
theorem drop_two {α : Type} {l : List α} {i : Nat} (h : i + 1 < l.length) : ∃ a b, l[i]? = some a ∧ l[i + 1]? = some b ∧ l.drop i = a :: b :: l.drop (i + 2) := by
  refine ⟨l[i], l[i + 1], by simp, by simp, ?_⟩
  rw [List.drop_eq_getElem_cons (by omega), List.drop_eq_getElem_cons (by omega)]
theorem drop_one {α : Type} {l : List α} {i : Nat} (h : i < l.length) : ∃ a, l[i]? = some a ∧ l.drop i = a :: l.drop (i + 1) :=
  ⟨l[i], by simp, by rw [List.drop_eq_getElem_cons h]⟩
theorem drop_three {α : Type} {l : List α} {i : Nat} (h : i + 2 < l.length) : ∃ a b c, l.drop i = a :: b :: c :: l.drop (i + 3) ∧ (l.drop i).take 3 = [a, b, c] := by
  refine ⟨l[i], l[i + 1], l[i + 2], ?_, ?_⟩ <;>
  rw [List.drop_eq_getElem_cons (by omega), List.drop_eq_getElem_cons (by omega), List.drop_eq_getElem_cons (by omega)]
  rfl
theorem drop_four {α : Type} {l : List α} {i : Nat} (h : i + 3 < l.length) : ∃ a b c d, l.drop i = a :: b :: c :: d :: l.drop (i + 4) ∧ (l.drop i).take 4 = [a, b, c, d] := by
  refine ⟨l[i], l[i + 1], l[i + 2], l[i + 3], ?_, ?_⟩ <;>
  rw [List.drop_eq_getElem_cons (by omega), List.drop_eq_getElem_cons (by omega), List.drop_eq_getElem_cons (by omega), List.drop_eq_getElem_cons (by omega)]
  rfl
theorem pairs_length : ∀ l : List Int, (pairs l).length = l.length / 2
  | [] => rfl
  | [_] => by simp [pairs]
  | a :: b :: l => by
    show (pairs l).length + 1 = (l.length + 2) / 2
    rw [pairs_length l]; omega
theorem fours_length : ∀ l : List Int, (fours l).length = l.length / 4
  | [] => rfl
  | [_] => by simp [fours]
  | [_, _] => by simp [fours]
  | [_, _, _] => by simp [fours]
  | a :: b :: c :: d :: l => by
    show (fours l).length + 1 = (l.length + 4) / 4
    rw [fours_length l]; omega
def fit (z : Int) : Prop := -2147483648 ≤ z ∧ z ≤ 2147483647
theorem fits_iff {z : Int} : fits z = true ↔ fit z := by
  unfold fits fit
  rw [Bool.and_eq_true, decide_eq_true_eq, decide_eq_true_eq]
  have : (2 : Int) ^ 31 = 2147483648 := by decide
  rw [this]; omega
structure Okq (room : Nat) (q : Run) : Prop where
  st : q.stack.length ≤ 48
  ft : ∀ z ∈ q.stack, fit z
  cl : q.cells.length = 32
  cf : ∀ z ∈ q.cells, fit z
  xf : fit q.x
  yf : fit q.y
  f1 : 1 ≤ q.frames.length
  f2 : q.frames.length ≤ 11
  ou : q.out.length ≤ room
  ct : q.count ≤ 100000
def mu (q : Run) : Nat := (100001 - q.count) * 49 - q.stack.length
theorem moved_some {r p : Run} {s : Step} (e : moved r s = some p) : fit (r.x + s.1) ∧ fit (r.y + s.2) ∧ p = { r with x := r.x + s.1, y := r.y + s.2 } := by
  unfold moved at e
  split at e
  · rename_i hc
    exact ⟨fits_iff.mp hc.1, fits_iff.mp hc.2, (Option.some.inj e).symm⟩
  · cases e
theorem moved_none {r : Run} {s : Step} (e : moved r s = none) : ¬ (fit (r.x + s.1) ∧ fit (r.y + s.2)) := by
  unfold moved at e
  split at e
  · cases e
  · rename_i hc
    rw [fits_iff, fits_iff] at hc; exact hc
theorem written_some {room : Nat} {r p : Run} {l : List Int} (e : written room r l = some p) : r.out.length + l.length ≤ room ∧ p = { r with out := r.out ++ l } := by
  unfold written at e
  split at e
  · cases e
  · rename_i hc
    exact ⟨Nat.le_of_not_lt hc, (Option.some.inj e).symm⟩
theorem written_none {room : Nat} {r : Run} {l : List Int} (e : written room r l = none) : room < r.out.length + l.length := by
  unfold written at e
  split at e
  · assumption
  · cases e
def Kpt (room : Nat) (r q : Run) : Prop := Okq room q ∧ q.count = r.count ∧ q.stack = r.stack
theorem Kpt.trans {room : Nat} {a b c : Run} (h : Kpt room a b) (k : Kpt room b c) : Kpt room a c := ⟨k.1, k.2.1.trans h.2.1, k.2.2.trans h.2.2⟩
theorem moved_ok {room : Nat} {r p : Run} {s : Step} (h : Okq room r) (e : moved r s = some p) : Kpt room r p := by
  obtain ⟨h1, h2, rfl⟩ := moved_some e
  exact ⟨⟨h.st, h.ft, h.cl, h.cf, h1, h2, h.f1, h.f2, h.ou, h.ct⟩, rfl, rfl⟩
theorem written_ok {room : Nat} {r p : Run} {l : List Int} (h : Okq room r) (e : written room r l = some p) : Kpt room r p := by
  obtain ⟨h1, rfl⟩ := written_some e
  exact ⟨⟨h.st, h.ft, h.cl, h.cf, h.xf, h.yf, h.f1, h.f2, by rw [List.length_append]; exact h1, h.ct⟩, rfl, rfl⟩
theorem draw_ok {room : Nat} : ∀ (l : List Seg) (r q : Run), Okq room r → draw room l r = .on q → Kpt room r q
  | [], r, q, h, e => by
    simp only [draw, End.on.injEq] at e; subst e; exact ⟨h, rfl, rfl⟩
  | .line a :: l, r, q, h, e => by
    unfold draw at e
    split at e
    · cases e
    · rename_i p hp
      have k1 := moved_ok h hp
      split at e
      · cases e
      · rename_i u hu
        have k2 := written_ok k1.1 hu
        exact (k1.trans k2).trans (draw_ok l _ q k2.1 e)
  | .curve a b c :: l, r, q, h, e => by
    unfold draw at e
    split at e
    · cases e
    · rename_i p1 hp1
      have k1 := moved_ok h hp1
      split at e
      · cases e
      · rename_i p2 hp2
        have k2 := moved_ok k1.1 hp2
        split at e
        · cases e
        · rename_i p3 hp3
          have k3 := moved_ok k2.1 hp3
          split at e
          · cases e
          · rename_i u hu
            have k4 := written_ok k3.1 hu
            exact (((k1.trans k2).trans k3).trans k4).trans (draw_ok l _ q k4.1 e)
def Nxt (room : Nat) (r q : Run) : Prop := Okq room q ∧ q.count = r.count
theorem without_ok {room : Nat} {r : Run} {good : Nat → Bool} {x : List Int × Run} (h : Okq room r) (e : without r good = some x) : Nxt room r x.2 ∧ x.2.stack = [] := by
  unfold without at e
  simp only at e
  split at e
  · cases e
    exact ⟨⟨⟨by simp, by simp, h.cl, h.cf, h.xf, h.yf, h.f1, h.f2, h.ou, h.ct⟩, rfl⟩, rfl⟩
  · split at e
    · cases e
      exact ⟨⟨⟨by simp, by simp, h.cl, h.cf, h.xf, h.yf, h.f1, h.f2, h.ou, h.ct⟩, rfl⟩, rfl⟩
    · cases e
theorem hinted_ok {room : Nat} {r q : Run} {k : Nat} (h : Okq room r) (e : hinted r k = some q) : Nxt room r q := by
  unfold hinted at e
  split at e
  · cases e
  · cases e
    exact ⟨⟨h.st, h.ft, h.cl, h.cf, h.xf, h.yf, h.f1, h.f2, h.ou, h.ct⟩, rfl⟩
theorem behind_ok {room : Nat} {r : Run} {n : Nat} (h : Okq room r) : Nxt room r (behind r n) := by
  have e : (behind r n).frames.length = r.frames.length := by
    unfold behind
    cases hf : r.frames with
    | nil => simp
    | cons f l => simp
  exact ⟨⟨h.st, h.ft, h.cl, h.cf, h.xf, h.yf, by rw [e]; exact h.f1, by rw [e]; exact h.f2, h.ou, h.ct⟩, rfl⟩
theorem opened_ok {room : Nat} {r q : Run} {s : Step} (h : Okq room r) (e : opened room r s = .on q) : Nxt room r q := by
  unfold opened at e
  split at e
  · cases e
  · rename_i p hp
    have k1 := moved_ok h hp
    split at e
    · cases e
    · rename_i u hu
      have k2 := written_ok k1.1 hu
      cases e
      have k3 := k1.trans k2
      exact ⟨⟨k3.1.st, k3.1.ft, k3.1.cl, k3.1.cf, k3.1.xf, k3.1.yf, k3.1.f1, k3.1.f2, k3.1.ou, k3.1.ct⟩, k3.2.1⟩
theorem mem_top {n : Nat} {r : Run} {x : List Int × List Int} (e : top n r = some x) : n ≤ r.stack.length ∧ x = (r.stack.drop (r.stack.length - n), r.stack.take (r.stack.length - n)) := by
  unfold top at e
  split at e
  · cases e
  · exact ⟨by omega, (Option.some.inj e).symm⟩
def Fits (l : List Int) : Prop := ∀ z ∈ l, fit z
theorem Fits.app {a b : List Int} (h : Fits a) (k : Fits b) : Fits (a ++ b) := fun z hz => (List.mem_append.mp hz).elim (h z) (k z)
theorem Fits.take {a : List Int} (h : Fits a) (n : Nat) : Fits (a.take n) := fun z hz => h z (List.mem_of_mem_take hz)
theorem Fits.drop {a : List Int} (h : Fits a) (n : Nat) : Fits (a.drop n) := fun z hz => h z (List.mem_of_mem_drop hz)
theorem Fits.getD {a : List Int} (h : Fits a) (n : Nat) : fit (a.getD n 0) := by
  rw [List.getD_eq_getElem?_getD]
  cases e : a[n]? with
  | none => exact ⟨by decide, by decide⟩
  | some z => exact h z (List.mem_of_getElem? e)
theorem Fits.set {a : List Int} (h : Fits a) (n : Nat) {y : Int} (hy : fit y) : Fits (a.set n y) := fun z hz => by
  rcases List.mem_or_eq_of_mem_set hz with k | k
  · exact h z k
  · rw [k]; exact hy
theorem Fits.one {y : Int} (hy : fit y) : Fits [y] := fun z hz => by rw [List.mem_singleton.mp hz]; exact hy
theorem Fits.two {x y : Int} (hx : fit x) (hy : fit y) : Fits [x, y] := fun z hz => by
  rcases List.mem_cons.mp hz with k | k
  · rw [k]; exact hx
  · rw [List.mem_singleton.mp k]; exact hy
theorem Fits.turned {a : List Int} (h : Fits a) (j : Int) : Fits (turned a j) := by
  unfold Sa20.turned
  simp only
  split
  · exact h
  · exact (h.drop _).app (h.take _)
theorem turned_length (a : List Int) (j : Int) : (turned a j).length = a.length := by
  unfold Sa20.turned
  simp only
  split
  · rfl
  · rw [List.length_append, List.length_drop, List.length_take]; omega
def RekOk (r : Run) (x : List Int × List Int) : Prop := x.1.length ≤ 48 ∧ Fits x.1 ∧ x.2.length = 32 ∧ Fits x.2
theorem give_ok {room : Nat} {r : Run} (h : Okq room r) {s : List Int} (hs : Fits s) (hl : s.length ≤ 47) {z : Int} {x : List Int × List Int}
    (e : (if fits z = true then (.inr (s ++ [z], r.cells) : Int ⊕ (List Int × List Int)) else .inl (-8)) = .inr x) : RekOk r x := by
  split at e
  · rename_i hz
    cases e
    exact ⟨by simp; omega, hs.app (Fits.one (fits_iff.mp hz)), h.cl, h.cf⟩
  · cases e
theorem need_ok {r : Run} {n : Nat} {f : List Int × List Int → Int ⊕ (List Int × List Int)} {x : List Int × List Int}
    (e : some (match top n r with | some x => f x | none => .inl (-3)) = some (.inr x))
    (hf : n ≤ r.stack.length → f (r.stack.drop (r.stack.length - n), r.stack.take (r.stack.length - n)) = .inr x → RekOk r x) : RekOk r x := by
  have e := Option.some.inj e
  split at e
  · rename_i y hy
    obtain ⟨hn, rfl⟩ := mem_top hy
    exact hf hn e
  · cases e
theorem reckon_ok {room k : Nat} {r : Run} {x : List Int × List Int} (h : Okq room r) (e : reckon k r = some (.inr x)) : RekOk r x := by
  have hst := h.st
  have F : Fits r.stack := h.ft
  unfold reckon at e
  simp only at e
  by_cases h259 : k = 259
  · rw [if_pos h259] at e
    refine need_ok e fun hn e => ?_
    simp only at e
    first
      | exact give_ok h (F.take _) (by rw [List.length_take]; omega) e
      | (split at e
         · cases e
         · exact give_ok h (F.take _) (by rw [List.length_take]; omega) e)
      | (cases e; exact ⟨by simp; omega, F.take _, h.cl, h.cf⟩)
      | (split at e
         · cases e
         · cases e
           exact ⟨by simp; omega, (F.take _).app (Fits.two ((F.drop _).getD _) ((F.drop _).getD _)), h.cl, h.cf⟩)
      | (cases e
         exact ⟨by simp; omega, (F.take _).app (Fits.two ((F.drop _).getD _) ((F.drop _).getD _)), h.cl, h.cf⟩)
      | (split at e
         · cases e
         · cases e
           exact ⟨by simp; omega, F.take _, by rw [List.length_set]; exact h.cl, Fits.set h.cf _ ((F.drop _).getD _)⟩)
      | (split at e
         · cases e
         · cases e
           exact ⟨by rw [List.length_append, turned_length, List.length_take, List.length_drop]; simp; omega, ((F.take _).take _).app (((F.take _).drop _).turned _), h.cl, h.cf⟩)
  rw [if_neg h259] at e
  by_cases h260 : k = 260
  · rw [if_pos h260] at e
    refine need_ok e fun hn e => ?_
    simp only at e
    first
      | exact give_ok h (F.take _) (by rw [List.length_take]; omega) e
      | (split at e
         · cases e
         · exact give_ok h (F.take _) (by rw [List.length_take]; omega) e)
      | (cases e; exact ⟨by simp; omega, F.take _, h.cl, h.cf⟩)
      | (split at e
         · cases e
         · cases e
           exact ⟨by simp; omega, (F.take _).app (Fits.two ((F.drop _).getD _) ((F.drop _).getD _)), h.cl, h.cf⟩)
      | (cases e
         exact ⟨by simp; omega, (F.take _).app (Fits.two ((F.drop _).getD _) ((F.drop _).getD _)), h.cl, h.cf⟩)
      | (split at e
         · cases e
         · cases e
           exact ⟨by simp; omega, F.take _, by rw [List.length_set]; exact h.cl, Fits.set h.cf _ ((F.drop _).getD _)⟩)
      | (split at e
         · cases e
         · cases e
           exact ⟨by rw [List.length_append, turned_length, List.length_take, List.length_drop]; simp; omega, ((F.take _).take _).app (((F.take _).drop _).turned _), h.cl, h.cf⟩)
  rw [if_neg h260] at e
  by_cases h261 : k = 261
  · rw [if_pos h261] at e
    refine need_ok e fun hn e => ?_
    simp only at e
    first
      | exact give_ok h (F.take _) (by rw [List.length_take]; omega) e
      | (split at e
         · cases e
         · exact give_ok h (F.take _) (by rw [List.length_take]; omega) e)
      | (cases e; exact ⟨by simp; omega, F.take _, h.cl, h.cf⟩)
      | (split at e
         · cases e
         · cases e
           exact ⟨by simp; omega, (F.take _).app (Fits.two ((F.drop _).getD _) ((F.drop _).getD _)), h.cl, h.cf⟩)
      | (cases e
         exact ⟨by simp; omega, (F.take _).app (Fits.two ((F.drop _).getD _) ((F.drop _).getD _)), h.cl, h.cf⟩)
      | (split at e
         · cases e
         · cases e
           exact ⟨by simp; omega, F.take _, by rw [List.length_set]; exact h.cl, Fits.set h.cf _ ((F.drop _).getD _)⟩)
      | (split at e
         · cases e
         · cases e
           exact ⟨by rw [List.length_append, turned_length, List.length_take, List.length_drop]; simp; omega, ((F.take _).take _).app (((F.take _).drop _).turned _), h.cl, h.cf⟩)
  rw [if_neg h261] at e
  by_cases h265 : k = 265
  · rw [if_pos h265] at e
    refine need_ok e fun hn e => ?_
    simp only at e
    first
      | exact give_ok h (F.take _) (by rw [List.length_take]; omega) e
      | (split at e
         · cases e
         · exact give_ok h (F.take _) (by rw [List.length_take]; omega) e)
      | (cases e; exact ⟨by simp; omega, F.take _, h.cl, h.cf⟩)
      | (split at e
         · cases e
         · cases e
           exact ⟨by simp; omega, (F.take _).app (Fits.two ((F.drop _).getD _) ((F.drop _).getD _)), h.cl, h.cf⟩)
      | (cases e
         exact ⟨by simp; omega, (F.take _).app (Fits.two ((F.drop _).getD _) ((F.drop _).getD _)), h.cl, h.cf⟩)
      | (split at e
         · cases e
         · cases e
           exact ⟨by simp; omega, F.take _, by rw [List.length_set]; exact h.cl, Fits.set h.cf _ ((F.drop _).getD _)⟩)
      | (split at e
         · cases e
         · cases e
           exact ⟨by rw [List.length_append, turned_length, List.length_take, List.length_drop]; simp; omega, ((F.take _).take _).app (((F.take _).drop _).turned _), h.cl, h.cf⟩)
  rw [if_neg h265] at e
  by_cases h270 : k = 270
  · rw [if_pos h270] at e
    refine need_ok e fun hn e => ?_
    simp only at e
    first
      | exact give_ok h (F.take _) (by rw [List.length_take]; omega) e
      | (split at e
         · cases e
         · exact give_ok h (F.take _) (by rw [List.length_take]; omega) e)
      | (cases e; exact ⟨by simp; omega, F.take _, h.cl, h.cf⟩)
      | (split at e
         · cases e
         · cases e
           exact ⟨by simp; omega, (F.take _).app (Fits.two ((F.drop _).getD _) ((F.drop _).getD _)), h.cl, h.cf⟩)
      | (cases e
         exact ⟨by simp; omega, (F.take _).app (Fits.two ((F.drop _).getD _) ((F.drop _).getD _)), h.cl, h.cf⟩)
      | (split at e
         · cases e
         · cases e
           exact ⟨by simp; omega, F.take _, by rw [List.length_set]; exact h.cl, Fits.set h.cf _ ((F.drop _).getD _)⟩)
      | (split at e
         · cases e
         · cases e
           exact ⟨by rw [List.length_append, turned_length, List.length_take, List.length_drop]; simp; omega, ((F.take _).take _).app (((F.take _).drop _).turned _), h.cl, h.cf⟩)
  rw [if_neg h270] at e
  by_cases h266 : k = 266
  · rw [if_pos h266] at e
    refine need_ok e fun hn e => ?_
    simp only at e
    first
      | exact give_ok h (F.take _) (by rw [List.length_take]; omega) e
      | (split at e
         · cases e
         · exact give_ok h (F.take _) (by rw [List.length_take]; omega) e)
      | (cases e; exact ⟨by simp; omega, F.take _, h.cl, h.cf⟩)
      | (split at e
         · cases e
         · cases e
           exact ⟨by simp; omega, (F.take _).app (Fits.two ((F.drop _).getD _) ((F.drop _).getD _)), h.cl, h.cf⟩)
      | (cases e
         exact ⟨by simp; omega, (F.take _).app (Fits.two ((F.drop _).getD _) ((F.drop _).getD _)), h.cl, h.cf⟩)
      | (split at e
         · cases e
         · cases e
           exact ⟨by simp; omega, F.take _, by rw [List.length_set]; exact h.cl, Fits.set h.cf _ ((F.drop _).getD _)⟩)
      | (split at e
         · cases e
         · cases e
           exact ⟨by rw [List.length_append, turned_length, List.length_take, List.length_drop]; simp; omega, ((F.take _).take _).app (((F.take _).drop _).turned _), h.cl, h.cf⟩)
  rw [if_neg h266] at e
  by_cases h267 : k = 267
  · rw [if_pos h267] at e
    refine need_ok e fun hn e => ?_
    simp only at e
    first
      | exact give_ok h (F.take _) (by rw [List.length_take]; omega) e
      | (split at e
         · cases e
         · exact give_ok h (F.take _) (by rw [List.length_take]; omega) e)
      | (cases e; exact ⟨by simp; omega, F.take _, h.cl, h.cf⟩)
      | (split at e
         · cases e
         · cases e
           exact ⟨by simp; omega, (F.take _).app (Fits.two ((F.drop _).getD _) ((F.drop _).getD _)), h.cl, h.cf⟩)
      | (cases e
         exact ⟨by simp; omega, (F.take _).app (Fits.two ((F.drop _).getD _) ((F.drop _).getD _)), h.cl, h.cf⟩)
      | (split at e
         · cases e
         · cases e
           exact ⟨by simp; omega, F.take _, by rw [List.length_set]; exact h.cl, Fits.set h.cf _ ((F.drop _).getD _)⟩)
      | (split at e
         · cases e
         · cases e
           exact ⟨by rw [List.length_append, turned_length, List.length_take, List.length_drop]; simp; omega, ((F.take _).take _).app (((F.take _).drop _).turned _), h.cl, h.cf⟩)
  rw [if_neg h267] at e
  by_cases h280 : k = 280
  · rw [if_pos h280] at e
    refine need_ok e fun hn e => ?_
    simp only at e
    first
      | exact give_ok h (F.take _) (by rw [List.length_take]; omega) e
      | (split at e
         · cases e
         · exact give_ok h (F.take _) (by rw [List.length_take]; omega) e)
      | (cases e; exact ⟨by simp; omega, F.take _, h.cl, h.cf⟩)
      | (split at e
         · cases e
         · cases e
           exact ⟨by simp; omega, (F.take _).app (Fits.two ((F.drop _).getD _) ((F.drop _).getD _)), h.cl, h.cf⟩)
      | (cases e
         exact ⟨by simp; omega, (F.take _).app (Fits.two ((F.drop _).getD _) ((F.drop _).getD _)), h.cl, h.cf⟩)
      | (split at e
         · cases e
         · cases e
           exact ⟨by simp; omega, F.take _, by rw [List.length_set]; exact h.cl, Fits.set h.cf _ ((F.drop _).getD _)⟩)
      | (split at e
         · cases e
         · cases e
           exact ⟨by rw [List.length_append, turned_length, List.length_take, List.length_drop]; simp; omega, ((F.take _).take _).app (((F.take _).drop _).turned _), h.cl, h.cf⟩)
  rw [if_neg h280] at e
  by_cases h268 : k = 268
  · rw [if_pos h268] at e
    refine need_ok e fun hn e => ?_
    simp only at e
    first
      | exact give_ok h (F.take _) (by rw [List.length_take]; omega) e
      | (split at e
         · cases e
         · exact give_ok h (F.take _) (by rw [List.length_take]; omega) e)
      | (cases e; exact ⟨by simp; omega, F.take _, h.cl, h.cf⟩)
      | (split at e
         · cases e
         · cases e
           exact ⟨by simp; omega, (F.take _).app (Fits.two ((F.drop _).getD _) ((F.drop _).getD _)), h.cl, h.cf⟩)
      | (cases e
         exact ⟨by simp; omega, (F.take _).app (Fits.two ((F.drop _).getD _) ((F.drop _).getD _)), h.cl, h.cf⟩)
      | (split at e
         · cases e
         · cases e
           exact ⟨by simp; omega, F.take _, by rw [List.length_set]; exact h.cl, Fits.set h.cf _ ((F.drop _).getD _)⟩)
      | (split at e
         · cases e
         · cases e
           exact ⟨by rw [List.length_append, turned_length, List.length_take, List.length_drop]; simp; omega, ((F.take _).take _).app (((F.take _).drop _).turned _), h.cl, h.cf⟩)
  rw [if_neg h268] at e
  by_cases h282 : k = 282
  · rw [if_pos h282] at e
    refine need_ok e fun hn e => ?_
    simp only at e
    first
      | exact give_ok h (F.take _) (by rw [List.length_take]; omega) e
      | (split at e
         · cases e
         · exact give_ok h (F.take _) (by rw [List.length_take]; omega) e)
      | (cases e; exact ⟨by simp; omega, F.take _, h.cl, h.cf⟩)
      | (split at e
         · cases e
         · cases e
           exact ⟨by simp; omega, (F.take _).app (Fits.two ((F.drop _).getD _) ((F.drop _).getD _)), h.cl, h.cf⟩)
      | (cases e
         exact ⟨by simp; omega, (F.take _).app (Fits.two ((F.drop _).getD _) ((F.drop _).getD _)), h.cl, h.cf⟩)
      | (split at e
         · cases e
         · cases e
           exact ⟨by simp; omega, F.take _, by rw [List.length_set]; exact h.cl, Fits.set h.cf _ ((F.drop _).getD _)⟩)
      | (split at e
         · cases e
         · cases e
           exact ⟨by rw [List.length_append, turned_length, List.length_take, List.length_drop]; simp; omega, ((F.take _).take _).app (((F.take _).drop _).turned _), h.cl, h.cf⟩)
  rw [if_neg h282] at e
  by_cases h271 : k = 271
  · rw [if_pos h271] at e
    refine need_ok e fun hn e => ?_
    simp only at e
    first
      | exact give_ok h (F.take _) (by rw [List.length_take]; omega) e
      | (split at e
         · cases e
         · exact give_ok h (F.take _) (by rw [List.length_take]; omega) e)
      | (cases e; exact ⟨by simp; omega, F.take _, h.cl, h.cf⟩)
      | (split at e
         · cases e
         · cases e
           exact ⟨by simp; omega, (F.take _).app (Fits.two ((F.drop _).getD _) ((F.drop _).getD _)), h.cl, h.cf⟩)
      | (cases e
         exact ⟨by simp; omega, (F.take _).app (Fits.two ((F.drop _).getD _) ((F.drop _).getD _)), h.cl, h.cf⟩)
      | (split at e
         · cases e
         · cases e
           exact ⟨by simp; omega, F.take _, by rw [List.length_set]; exact h.cl, Fits.set h.cf _ ((F.drop _).getD _)⟩)
      | (split at e
         · cases e
         · cases e
           exact ⟨by rw [List.length_append, turned_length, List.length_take, List.length_drop]; simp; omega, ((F.take _).take _).app (((F.take _).drop _).turned _), h.cl, h.cf⟩)
  rw [if_neg h271] at e
  by_cases h278 : k = 278
  · rw [if_pos h278] at e
    refine need_ok e fun hn e => ?_
    simp only at e
    first
      | exact give_ok h (F.take _) (by rw [List.length_take]; omega) e
      | (split at e
         · cases e
         · exact give_ok h (F.take _) (by rw [List.length_take]; omega) e)
      | (cases e; exact ⟨by simp; omega, F.take _, h.cl, h.cf⟩)
      | (split at e
         · cases e
         · cases e
           exact ⟨by simp; omega, (F.take _).app (Fits.two ((F.drop _).getD _) ((F.drop _).getD _)), h.cl, h.cf⟩)
      | (cases e
         exact ⟨by simp; omega, (F.take _).app (Fits.two ((F.drop _).getD _) ((F.drop _).getD _)), h.cl, h.cf⟩)
      | (split at e
         · cases e
         · cases e
           exact ⟨by simp; omega, F.take _, by rw [List.length_set]; exact h.cl, Fits.set h.cf _ ((F.drop _).getD _)⟩)
      | (split at e
         · cases e
         · cases e
           exact ⟨by rw [List.length_append, turned_length, List.length_take, List.length_drop]; simp; omega, ((F.take _).take _).app (((F.take _).drop _).turned _), h.cl, h.cf⟩)
  rw [if_neg h278] at e
  by_cases h274 : k = 274
  · rw [if_pos h274] at e
    refine need_ok e fun hn e => ?_
    simp only at e
    first
      | exact give_ok h (F.take _) (by rw [List.length_take]; omega) e
      | (split at e
         · cases e
         · exact give_ok h (F.take _) (by rw [List.length_take]; omega) e)
      | (cases e; exact ⟨by simp; omega, F.take _, h.cl, h.cf⟩)
      | (split at e
         · cases e
         · cases e
           exact ⟨by simp; omega, (F.take _).app (Fits.two ((F.drop _).getD _) ((F.drop _).getD _)), h.cl, h.cf⟩)
      | (cases e
         exact ⟨by simp; omega, (F.take _).app (Fits.two ((F.drop _).getD _) ((F.drop _).getD _)), h.cl, h.cf⟩)
      | (split at e
         · cases e
         · cases e
           exact ⟨by simp; omega, F.take _, by rw [List.length_set]; exact h.cl, Fits.set h.cf _ ((F.drop _).getD _)⟩)
      | (split at e
         · cases e
         · cases e
           exact ⟨by rw [List.length_append, turned_length, List.length_take, List.length_drop]; simp; omega, ((F.take _).take _).app (((F.take _).drop _).turned _), h.cl, h.cf⟩)
  rw [if_neg h274] at e
  by_cases h283 : k = 283
  · rw [if_pos h283] at e
    refine need_ok e fun hn e => ?_
    simp only at e
    first
      | exact give_ok h (F.take _) (by rw [List.length_take]; omega) e
      | (split at e
         · cases e
         · exact give_ok h (F.take _) (by rw [List.length_take]; omega) e)
      | (cases e; exact ⟨by simp; omega, F.take _, h.cl, h.cf⟩)
      | (split at e
         · cases e
         · cases e
           exact ⟨by simp; omega, (F.take _).app (Fits.two ((F.drop _).getD _) ((F.drop _).getD _)), h.cl, h.cf⟩)
      | (cases e
         exact ⟨by simp; omega, (F.take _).app (Fits.two ((F.drop _).getD _) ((F.drop _).getD _)), h.cl, h.cf⟩)
      | (split at e
         · cases e
         · cases e
           exact ⟨by simp; omega, F.take _, by rw [List.length_set]; exact h.cl, Fits.set h.cf _ ((F.drop _).getD _)⟩)
      | (split at e
         · cases e
         · cases e
           exact ⟨by rw [List.length_append, turned_length, List.length_take, List.length_drop]; simp; omega, ((F.take _).take _).app (((F.take _).drop _).turned _), h.cl, h.cf⟩)
  rw [if_neg h283] at e
  by_cases h284 : k = 284
  · rw [if_pos h284] at e
    refine need_ok e fun hn e => ?_
    simp only at e
    first
      | exact give_ok h (F.take _) (by rw [List.length_take]; omega) e
      | (split at e
         · cases e
         · exact give_ok h (F.take _) (by rw [List.length_take]; omega) e)
      | (cases e; exact ⟨by simp; omega, F.take _, h.cl, h.cf⟩)
      | (split at e
         · cases e
         · cases e
           exact ⟨by simp; omega, (F.take _).app (Fits.two ((F.drop _).getD _) ((F.drop _).getD _)), h.cl, h.cf⟩)
      | (cases e
         exact ⟨by simp; omega, (F.take _).app (Fits.two ((F.drop _).getD _) ((F.drop _).getD _)), h.cl, h.cf⟩)
      | (split at e
         · cases e
         · cases e
           exact ⟨by simp; omega, F.take _, by rw [List.length_set]; exact h.cl, Fits.set h.cf _ ((F.drop _).getD _)⟩)
      | (split at e
         · cases e
         · cases e
           exact ⟨by rw [List.length_append, turned_length, List.length_take, List.length_drop]; simp; omega, ((F.take _).take _).app (((F.take _).drop _).turned _), h.cl, h.cf⟩)
  rw [if_neg h284] at e
  by_cases h276 : k = 276
  · rw [if_pos h276] at e
    refine need_ok e fun hn e => ?_
    simp only at e
    first
      | exact give_ok h (F.take _) (by rw [List.length_take]; omega) e
      | (split at e
         · cases e
         · exact give_ok h (F.take _) (by rw [List.length_take]; omega) e)
      | (cases e; exact ⟨by simp; omega, F.take _, h.cl, h.cf⟩)
      | (split at e
         · cases e
         · cases e
           exact ⟨by simp; omega, (F.take _).app (Fits.two ((F.drop _).getD _) ((F.drop _).getD _)), h.cl, h.cf⟩)
      | (cases e
         exact ⟨by simp; omega, (F.take _).app (Fits.two ((F.drop _).getD _) ((F.drop _).getD _)), h.cl, h.cf⟩)
      | (split at e
         · cases e
         · cases e
           exact ⟨by simp; omega, F.take _, by rw [List.length_set]; exact h.cl, Fits.set h.cf _ ((F.drop _).getD _)⟩)
      | (split at e
         · cases e
         · cases e
           exact ⟨by rw [List.length_append, turned_length, List.length_take, List.length_drop]; simp; omega, ((F.take _).take _).app (((F.take _).drop _).turned _), h.cl, h.cf⟩)
  rw [if_neg h276] at e
  by_cases h277 : k = 277
  · rw [if_pos h277] at e
    refine need_ok e fun hn e => ?_
    simp only at e
    first
      | exact give_ok h (F.take _) (by rw [List.length_take]; omega) e
      | (split at e
         · cases e
         · exact give_ok h (F.take _) (by rw [List.length_take]; omega) e)
      | (cases e; exact ⟨by simp; omega, F.take _, h.cl, h.cf⟩)
      | (split at e
         · cases e
         · cases e
           exact ⟨by simp; omega, (F.take _).app (Fits.two ((F.drop _).getD _) ((F.drop _).getD _)), h.cl, h.cf⟩)
      | (cases e
         exact ⟨by simp; omega, (F.take _).app (Fits.two ((F.drop _).getD _) ((F.drop _).getD _)), h.cl, h.cf⟩)
      | (split at e
         · cases e
         · cases e
           exact ⟨by simp; omega, F.take _, by rw [List.length_set]; exact h.cl, Fits.set h.cf _ ((F.drop _).getD _)⟩)
      | (split at e
         · cases e
         · cases e
           exact ⟨by rw [List.length_append, turned_length, List.length_take, List.length_drop]; simp; omega, ((F.take _).take _).app (((F.take _).drop _).turned _), h.cl, h.cf⟩)
  rw [if_neg h277] at e
  by_cases h285 : k = 285
  · rw [if_pos h285] at e
    refine need_ok e fun hn e => ?_
    simp only at e
    first
      | exact give_ok h (F.take _) (by rw [List.length_take]; omega) e
      | (split at e
         · cases e
         · exact give_ok h (F.take _) (by rw [List.length_take]; omega) e)
      | (cases e; exact ⟨by simp; omega, F.take _, h.cl, h.cf⟩)
      | (split at e
         · cases e
         · cases e
           exact ⟨by simp; omega, (F.take _).app (Fits.two ((F.drop _).getD _) ((F.drop _).getD _)), h.cl, h.cf⟩)
      | (cases e
         exact ⟨by simp; omega, (F.take _).app (Fits.two ((F.drop _).getD _) ((F.drop _).getD _)), h.cl, h.cf⟩)
      | (split at e
         · cases e
         · cases e
           exact ⟨by simp; omega, F.take _, by rw [List.length_set]; exact h.cl, Fits.set h.cf _ ((F.drop _).getD _)⟩)
      | (split at e
         · cases e
         · cases e
           exact ⟨by rw [List.length_append, turned_length, List.length_take, List.length_drop]; simp; omega, ((F.take _).take _).app (((F.take _).drop _).turned _), h.cl, h.cf⟩)
  rw [if_neg h285] at e
  by_cases h286 : k = 286
  · rw [if_pos h286] at e
    refine need_ok e fun hn e => ?_
    simp only at e
    first
      | exact give_ok h (F.take _) (by rw [List.length_take]; omega) e
      | (split at e
         · cases e
         · exact give_ok h (F.take _) (by rw [List.length_take]; omega) e)
      | (cases e; exact ⟨by simp; omega, F.take _, h.cl, h.cf⟩)
      | (split at e
         · cases e
         · cases e
           exact ⟨by simp; omega, (F.take _).app (Fits.two ((F.drop _).getD _) ((F.drop _).getD _)), h.cl, h.cf⟩)
      | (cases e
         exact ⟨by simp; omega, (F.take _).app (Fits.two ((F.drop _).getD _) ((F.drop _).getD _)), h.cl, h.cf⟩)
      | (split at e
         · cases e
         · cases e
           exact ⟨by simp; omega, F.take _, by rw [List.length_set]; exact h.cl, Fits.set h.cf _ ((F.drop _).getD _)⟩)
      | (split at e
         · cases e
         · cases e
           exact ⟨by rw [List.length_append, turned_length, List.length_take, List.length_drop]; simp; omega, ((F.take _).take _).app (((F.take _).drop _).turned _), h.cl, h.cf⟩)
  rw [if_neg h286] at e
  cases e
theorem operate_ok {t : Subrs} {room k : Nat} {r q : Run} (h : Okq room r) (e : operate t room k r = .on q) : Nxt room r q := by
  unfold operate at e
  split at e
  · split at e
    · cases e
    · rename_i x hx
      have k1 := without_ok h hx
      split at e
      · cases e
      · rename_i u hu
        cases e
        have k2 := hinted_ok k1.1.1 hu
        exact ⟨k2.1, k2.2.trans k1.1.2⟩
  split at e
  · split at e
    · cases e
    · rename_i x hx
      have k1 := without_ok h hx
      split at e
      · cases e
      · rename_i u hu
        have k2 := hinted_ok k1.1.1 hu
        simp only at e
        split at e
        · cases e
        · cases e
          have k3 := behind_ok (n := (u.hints + 7) / 8) k2.1
          exact ⟨k3.1, (k3.2.trans k2.2).trans k1.1.2⟩
  split at e
  · split at e
    · cases e
    · rename_i x hx
      have k1 := without_ok h hx
      have k2 := opened_ok k1.1.1 e
      exact ⟨k2.1, k2.2.trans k1.1.2⟩
  split at e
  · split at e
    · cases e
    · rename_i x hx
      have k1 := without_ok h hx
      have k2 := opened_ok k1.1.1 e
      exact ⟨k2.1, k2.2.trans k1.1.2⟩
  split at e
  · split at e
    · cases e
    · split at e
      · cases e
      · split at e <;> cases e
  split at e
  · split at e
    · cases e
    · rename_i x hx
      obtain ⟨hn, rfl⟩ := mem_top hx
      simp only at e
      split at e
      · cases e
      · split at e
        · cases e
        · rename_i hf
          cases e
          exact ⟨⟨by simp; have := h.st; omega, Fits.take h.ft _, h.cl, h.cf, h.xf, h.yf, by simp, by simp; omega, h.ou, h.ct⟩, rfl⟩
  split at e
  · split at e
    · cases e
    · rename_i hf
      cases e
      exact ⟨⟨h.st, h.ft, h.cl, h.cf, h.xf, h.yf, by simp; omega, by simp; have := h.f2; omega, h.ou, h.ct⟩, rfl⟩
  split at e
  · cases e
  · split at e
    · cases e
    · have k1 := draw_ok _ _ _ (⟨by simp, by simp, h.cl, h.cf, h.xf, h.yf, h.f1, h.f2, h.ou, h.ct⟩ : Okq room { r with stack := [] }) e
      exact ⟨k1.1, k1.2.1⟩
  · cases e
  · rename_i x _ hr
    cases e
    obtain ⟨h1, h2, h3, h4⟩ := reckon_ok h hr
    exact ⟨⟨h1, h2, h3, h4, h.xf, h.yf, h.f1, h.f2, h.ou, h.ct⟩, rfl⟩
  · cases e
end Mn
namespace Mn
open Sa20
theorem u8_le (b : UInt8) : b.toNat ≤ 255 := by have := b.toNat_lt; omega
theorem big_two (a b : UInt8) : big [a, b] = 256 * a.toNat + b.toNat := by simp [big]
theorem big_four (a b c d : UInt8) : big [a, b, c, d] = 256 * (256 * (256 * a.toNat + b.toNat) + c.toNat) + d.toNat := by simp [big]
def signedP (l : List Int) : Int := match l with
  | [] => 0
  | a :: r => r.foldl (fun n d => n * 256 + d) (if 128 ≤ a then a - 256 else a)
def bz (b : UInt8) : Int := (b.toNat : Int)
theorem signed_two (a b : UInt8) : signed 16 (big [a, b]) = signedP [bz a, bz b] := by
  have := u8_le a; have := u8_le b
  rw [big_two]; unfold signed signedP bz
  simp only [List.foldl_cons, List.foldl_nil]
  split <;> split <;> omega
theorem signed_four (a b c d : UInt8) : signed 32 (big [a, b, c, d]) = signedP [bz a, bz b, bz c, bz d] := by
  have := u8_le a; have := u8_le b; have := u8_le c; have := u8_le d
  rw [big_four]; unfold signed signedP bz
  simp only [List.foldl_cons, List.foldl_nil]
  split <;> split <;> omega
def nBehind (b : Int) : Int := if b = 28 then 2 else if b ≤ 246 then 0 else if b ≤ 254 then 1 else 4
def numOf (b : Int) (l : List Int) : Int :=
  if b = 28 then signedP l * 65536 else if b ≤ 246 then (b - 139) * 65536
  else if b ≤ 250 then ((b - 247) * 256 + l.headD 0 + 108) * 65536
  else if b ≤ 254 then (-(b - 251) * 256 - l.headD 0 - 108) * 65536 else signedP l
theorem signedP_two {a b : Int} (ha : 0 ≤ a ∧ a ≤ 255) (hb : 0 ≤ b ∧ b ≤ 255) : -32768 ≤ signedP [a, b] ∧ signedP [a, b] ≤ 32767 := by
  unfold signedP; simp only [List.foldl_cons, List.foldl_nil]
  split <;> omega
theorem signedP_four {a b c d : Int} (ha : 0 ≤ a ∧ a ≤ 255) (hb : 0 ≤ b ∧ b ≤ 255) (hc : 0 ≤ c ∧ c ≤ 255) (hd : 0 ≤ d ∧ d ≤ 255) : fit (signedP [a, b, c, d]) := by
  unfold signedP fit; simp only [List.foldl_cons, List.foldl_nil]
  split <;> omega
theorem bz_range (b : UInt8) : 0 ≤ bz b ∧ bz b ≤ 255 := by have := u8_le b; unfold bz; omega
theorem item_nil : item [] = none := rfl
theorem item_num {c : UInt8} {r : Bytes} (h : 32 ≤ bz c ∨ bz c = 28) :
    (r.length < (nBehind (bz c)).toNat → item (c :: r) = none) ∧
    ((nBehind (bz c)).toNat ≤ r.length → item (c :: r) = some (.number (numOf (bz c) ((r.take (nBehind (bz c)).toNat).map bz)), 1 + (nBehind (bz c)).toNat) ∧ fit (numOf (bz c) ((r.take (nBehind (bz c)).toNat).map bz)) ∧
      ((r.take (nBehind (bz c)).toNat).length = (nBehind (bz c)).toNat)) := by
  have hc := u8_le c
  unfold bz at h
  have hb : bz c = (c.toNat : Int) := rfl
  by_cases h28 : c.toNat = 28
  · have e : nBehind (bz c) = 2 := by unfold nBehind; rw [hb, if_pos (by omega)]
    rw [e]
    refine ⟨fun hl => ?_, fun hl => ?_⟩
    · unfold item; simp only
      rw [if_neg (by omega), if_neg (by omega), if_pos h28, if_pos (show r.length < 2 from hl)]
    · match r, hl with
      | a :: b :: r, _ =>
        have e2 : numOf (bz c) (((a :: b :: r).take (2 : Int).toNat).map bz) = signedP [bz a, bz b] * 65536 := by unfold numOf; rw [if_pos (by omega)]; rfl
        have k := signedP_two (bz_range a) (bz_range b)
        refine ⟨?_, ?_, rfl⟩
        · rw [e2]; unfold item; simp only
          rw [if_neg (by omega), if_neg (by omega), if_pos h28, if_neg (by simp)]
          show some (Item.number (signed 16 (big [a, b]) * ONE), 3) = _
          rw [signed_two]; rfl
        · rw [e2]; unfold fit; omega
  by_cases h246 : c.toNat ≤ 246
  · have e : nBehind (bz c) = 0 := by unfold nBehind; rw [hb, if_neg (by omega), if_pos (by omega)]
    rw [e]
    refine ⟨fun hl => absurd hl (Nat.not_lt_zero _), fun _ => ?_⟩
    have e2 : numOf (bz c) ((r.take (0 : Int).toNat).map bz) = ((c.toNat : Int) - 139) * 65536 := by unfold numOf; rw [hb, if_neg (by omega), if_pos (by omega)]
    refine ⟨?_, ?_, rfl⟩
    · rw [e2]; unfold item; simp only
      rw [if_pos (by omega)]; rfl
    · rw [e2]; unfold fit; omega
  by_cases h254 : c.toNat ≤ 254
  · have e : nBehind (bz c) = 1 := by unfold nBehind; rw [hb, if_neg (by omega), if_neg (by omega), if_pos (by omega)]
    rw [e]
    refine ⟨fun hl => ?_, fun hl => ?_⟩
    · match r, hl with
      | [], _ =>
        unfold item; simp only
        rw [if_neg (by omega), if_pos (by omega)]
      | a :: r, hl => simp at hl
    · match r, hl with
      | a :: r, _ =>
        have ha := bz_range a
        have e2 : numOf (bz c) (((a :: r).take (1 : Int).toNat).map bz) = (if c.toNat ≤ 250 then (((c.toNat : Int) - 247) * 256 + bz a + 108) * 65536 else (-((c.toNat : Int) - 251) * 256 - bz a - 108) * 65536) := by
          unfold numOf; rw [hb, if_neg (by omega), if_neg (by omega)]
          by_cases h250 : c.toNat ≤ 250
          · rw [if_pos (by omega), if_pos h250]; rfl
          · rw [if_neg (by omega), if_neg h250, if_pos (by omega)]; rfl
        refine ⟨?_, ?_, rfl⟩
        · rw [e2]; unfold item; simp only
          rw [if_neg (by omega), if_pos (by omega)]; rfl
        · rw [e2]; unfold fit; split <;> omega
      | [], hl => simp at hl
  · have h255 : c.toNat = 255 := by omega
    have e : nBehind (bz c) = 4 := by unfold nBehind; rw [hb, if_neg (by omega), if_neg (by omega), if_neg (by omega)]
    rw [e]
    refine ⟨fun hl => ?_, fun hl => ?_⟩
    · unfold item; simp only
      rw [if_neg (by omega), if_neg (by omega), if_neg (by omega), if_pos h255, if_pos (show r.length < 4 from hl)]
    · match r, hl with
      | a :: b :: x :: d :: r, _ =>
        have e2 : numOf (bz c) (((a :: b :: x :: d :: r).take (4 : Int).toNat).map bz) = signedP [bz a, bz b, bz x, bz d] := by
          unfold numOf; rw [hb, if_neg (by omega), if_neg (by omega), if_neg (by omega), if_neg (by omega)]; rfl
        refine ⟨?_, ?_, rfl⟩
        · rw [e2]; unfold item; simp only
          rw [if_neg (by omega), if_neg (by omega), if_neg (by omega), if_pos h255, if_neg (by simp)]
          show some (Item.number (signed 32 (big [a, b, x, d])), 5) = _
          rw [signed_four]; rfl
        · rw [e2]; exact signedP_four (bz_range a) (bz_range b) (bz_range x) (bz_range d)
theorem item_twelve {c : UInt8} {r : Bytes} (h : bz c = 12) : item (c :: r) = match r with
      | w :: _ => some (.operator (256 + w.toNat), 2)
      | [] => none := by
  unfold bz at h
  unfold item; simp only
  rw [if_neg (by omega), if_neg (by omega), if_neg (by omega), if_neg (by omega), if_pos (by omega)]
  cases r <;> rfl
theorem item_op {c : UInt8} {r : Bytes} (h : ¬ 32 ≤ bz c) (h1 : ¬ bz c = 28) (h2 : ¬ bz c = 12) : item (c :: r) = some (.operator c.toNat, 1) := by
  unfold bz at h h1 h2
  unfold item; simp only
  rw [if_neg (by omega), if_neg (by omega), if_neg (by omega), if_neg (by omega), if_neg (by omega)]
theorem item_fit {s : Bytes} {z : Int} {n : Nat} (e : item s = some (.number z, n)) : fit z := by
  cases s with
  | nil => rw [item_nil] at e; cases e
  | cons c r =>
    by_cases h : 32 ≤ bz c ∨ bz c = 28
    · obtain ⟨k1, k2⟩ := item_num (r := r) h
      by_cases hl : r.length < (nBehind (bz c)).toNat
      · rw [k1 hl] at e; cases e
      · obtain ⟨k3, k4, _⟩ := k2 (by omega)
        rw [k3] at e; cases e; exact k4
    · by_cases h12 : bz c = 12
      · rw [item_twelve h12] at e
        split at e <;> cases e
      · rw [item_op (by omega) (by omega) h12] at e; cases e
theorem step_ok {t : Subrs} {room : Nat} {r q : Run} (h : Okq room r) (e : step t room r = .on q) : Okq room q ∧ mu q < mu r := by
  have hc := h.ct
  have hs := h.st
  unfold step at e
  split at e
  · cases e
  · rename_i z n hi
    split at e
    · cases e
    · rename_i hl
      cases e
      have k := behind_ok (n := n) h
      refine ⟨⟨by simp; omega, Fits.app h.ft (Fits.one (item_fit hi)), h.cl, h.cf, h.xf, h.yf, k.1.f1, k.1.f2, h.ou, h.ct⟩, ?_⟩
      show (100001 - r.count) * 49 - (r.stack ++ [z]).length < (100001 - r.count) * 49 - r.stack.length
      rw [List.length_append, List.length_singleton]; omega
  · rename_i k n hi
    split at e
    · cases e
    · rename_i hl
      have k1 := behind_ok (n := n) h
      have h2 : Okq room { behind r n with count := r.count + 1 } := ⟨h.st, h.ft, h.cl, h.cf, h.xf, h.yf, k1.1.f1, k1.1.f2, h.ou, by show r.count + 1 ≤ 100000; omega⟩
      have k2 := operate_ok h2 e
      refine ⟨k2.1, ?_⟩
      have k3 : q.count = r.count + 1 := k2.2
      unfold mu
      rw [k3]
      have := k2.1.st
      omega
theorem run_step {t : Subrs} {room n : Nat} {q : Run} {R : Option (Run ⊕ Int)} (hn : mu q < n) (e : run t room n q = R) :
    (∀ k, step t room q = .bad k → R = some (.inr k)) ∧ (∀ q', step t room q = .over q' → R = some (.inl q')) ∧
    (Okq room q → ∀ q', step t room q = .on q' → ∃ m, mu q' < m ∧ run t room m q' = R) := by
  match n, hn, e with
  | n + 1, hn, e =>
    unfold run at e
    refine ⟨fun k hk => ?_, fun q' hk => ?_, fun ho q' hk => ⟨n, ?_, ?_⟩⟩
    · rw [hk] at e; exact e.symm
    · rw [hk] at e; exact e.symm
    · have := (step_ok ho hk).2; omega
    · rw [hk] at e; exact e
theorem fit0 : fit 0 := ⟨by decide, by decide⟩
theorem first_ok (room : Nat) (code : Bytes) : Okq room (first code) := ⟨by simp [first], by simp [first], by simp [first], by
    intro z hz
    have : z = 0 := by
      have hz : z ∈ List.replicate 32 (0 : Int) := hz
      exact (List.mem_replicate.mp hz).2
    rw [this]; exact ⟨by decide, by decide⟩, fit0, fit0, by simp [first], by simp [first], by simp [first], by simp [first]⟩
theorem first_mu (code : Bytes) : mu (first code) < ENOUGH := by
  show (100001 - 0) * 49 - 0 < 100002 * 50
  decide
end Mn
namespace Mn
open Sa20
def tailOp (room k : Nat) (r : Run) : End := match drawn k r.stack, reckon k r with
    | some none, _ => .bad (-3)
    | some (some l), _ => if r.path = false then .bad (-12) else draw room l { r with stack := [] }
    | none, some (.inl z) => .bad z
    | none, some (.inr x) => .on { r with stack := x.1, cells := x.2 }
    | none, none => .bad (-4)
theorem op_tail {t : Subrs} {room : Nat} {r : Run} {k : Nat} (h0 : ¬ (k = 1 ∨ k = 3 ∨ k = 18 ∨ k = 23)) (h1 : ¬ (k = 19 ∨ k = 20)) (h2 : ¬ (k = 21)) (h3 : ¬ (k = 22 ∨ k = 4)) (h4 : ¬ (k = 14)) (h5 : ¬ (k = 10 ∨ k = 29)) (h6 : ¬ (k = 11)) : operate t room k r = tailOp room k r := by
  unfold operate
  rw [if_neg h0, if_neg h1, if_neg h2, if_neg h3, if_neg h4, if_neg h5, if_neg h6]
  rfl
theorem op_draws {t : Subrs} {room : Nat} {r : Run} {k : Nat} (hk : k = 5 ∨ k = 6 ∨ k = 7 ∨ k = 8 ∨ k = 24 ∨ k = 25 ∨ k = 26 ∨ k = 27 ∨ k = 30 ∨ k = 31 ∨ k = 290 ∨ k = 291 ∨ k = 292 ∨ k = 293) :
    operate t room k r = match drawn k r.stack with
      | some none => .bad (-3)
      | some (some l) => if r.path = false then .bad (-12) else draw room l { r with stack := [] }
      | none => .bad (-4) := by
  have e : operate t room k r = tailOp room k r := by
    rcases hk with rfl | rfl | rfl | rfl | rfl | rfl | rfl | rfl | rfl | rfl | rfl | rfl | rfl | rfl <;> exact op_tail (by decide) (by decide) (by decide) (by decide) (by decide) (by decide) (by decide)
  obtain ⟨o, ho⟩ : ∃ o, drawn k r.stack = some o := by
    rcases hk with rfl | rfl | rfl | rfl | rfl | rfl | rfl | rfl | rfl | rfl | rfl | rfl | rfl | rfl <;> exact ⟨_, rfl⟩
  rw [e]
  unfold tailOp
  rw [ho]
  cases o <;> rfl
theorem drawn_none {k : Nat} {l : List Int} (hk : ¬ (k = 5 ∨ k = 6 ∨ k = 7 ∨ k = 8 ∨ k = 24 ∨ k = 25 ∨ k = 26 ∨ k = 27 ∨ k = 30 ∨ k = 31 ∨ k = 290 ∨ k = 291 ∨ k = 292 ∨ k = 293)) : drawn k l = none := by
  unfold drawn
  simp only
  rw [if_neg (fun h => hk (.inl h)), if_neg (fun h => Or.elim h (fun h => hk (.inr (.inl h))) (fun h => hk (.inr (.inr (.inl h))))), if_neg (fun h => hk (.inr (.inr (.inr (.inl h))))), if_neg (fun h => hk (.inr (.inr (.inr (.inr (.inl h)))))), if_neg (fun h => hk (.inr (.inr (.inr (.inr (.inr (.inl h))))))), if_neg (fun h => hk (.inr (.inr (.inr (.inr (.inr (.inr (.inr (.inl h))))))))), if_neg (fun h => hk (.inr (.inr (.inr (.inr (.inr (.inr (.inl h)))))))), if_neg (fun h => Or.elim h (fun h => hk (.inr (.inr (.inr (.inr (.inr (.inr (.inr (.inr (.inl h)))))))))) (fun h => hk (.inr (.inr (.inr (.inr (.inr (.inr (.inr (.inr (.inr (.inl h)))))))))))), if_neg (fun h => hk (.inr (.inr (.inr (.inr (.inr (.inr (.inr (.inr (.inr (.inr (.inl h)))))))))))), if_neg (fun h => hk (.inr (.inr (.inr (.inr (.inr (.inr (.inr (.inr (.inr (.inr (.inr (.inl h))))))))))))), if_neg (fun h => hk (.inr (.inr (.inr (.inr (.inr (.inr (.inr (.inr (.inr (.inr (.inr (.inr (.inl h)))))))))))))), if_neg (fun h => hk (.inr (.inr (.inr (.inr (.inr (.inr (.inr (.inr (.inr (.inr (.inr (.inr (.inr (h)))))))))))))))]
def special (k : Nat) : Prop := k = 1 ∨ k = 3 ∨ k = 18 ∨ k = 23 ∨ k = 19 ∨ k = 20 ∨ k = 21 ∨ k = 22 ∨ k = 4 ∨ k = 14 ∨ k = 10 ∨ k = 29 ∨ k = 11
theorem tail_none {room k : Nat} {r : Run} (h : drawn k r.stack = none) : tailOp room k r = match reckon k r with
      | some (.inl z) => .bad z
      | some (.inr x) => .on { r with stack := x.1, cells := x.2 }
      | none => .bad (-4) := by
  unfold tailOp
  rw [h]
  rcases reckon k r with _ | (_ | _) <;> rfl
theorem op_top {t : Subrs} {room : Nat} {r : Run} {k : Nat} (hs : ¬ special k) (hk : ¬ (k = 5 ∨ k = 6 ∨ k = 7 ∨ k = 8 ∨ k = 24 ∨ k = 25 ∨ k = 26 ∨ k = 27 ∨ k = 30 ∨ k = 31 ∨ k = 290 ∨ k = 291 ∨ k = 292 ∨ k = 293)) :
    operate t room k r = match reckon k r with
      | some (.inl z) => .bad z
      | some (.inr x) => .on { r with stack := x.1, cells := x.2 }
      | none => .bad (-4) := by
  rw [op_tail (fun h => Or.elim h (fun h => hs (.inl h)) (fun h => Or.elim h (fun h => hs (.inr (.inl h))) (fun h => Or.elim h (fun h => hs (.inr (.inr (.inl h)))) (fun h => hs (.inr (.inr (.inr (.inl h)))))))) (fun h => Or.elim h (fun h => hs (.inr (.inr (.inr (.inr (.inl h)))))) (fun h => hs (.inr (.inr (.inr (.inr (.inr (.inl h)))))))) (fun h => hs (.inr (.inr (.inr (.inr (.inr (.inr (.inl h)))))))) (fun h => Or.elim h (fun h => hs (.inr (.inr (.inr (.inr (.inr (.inr (.inr (.inl h))))))))) (fun h => hs (.inr (.inr (.inr (.inr (.inr (.inr (.inr (.inr (.inl h))))))))))) (fun h => hs (.inr (.inr (.inr (.inr (.inr (.inr (.inr (.inr (.inr (.inl h))))))))))) (fun h => Or.elim h (fun h => hs (.inr (.inr (.inr (.inr (.inr (.inr (.inr (.inr (.inr (.inr (.inl h)))))))))))) (fun h => hs (.inr (.inr (.inr (.inr (.inr (.inr (.inr (.inr (.inr (.inr (.inr (.inl h)))))))))))))) (fun h => hs (.inr (.inr (.inr (.inr (.inr (.inr (.inr (.inr (.inr (.inr (.inr (.inr (h))))))))))))))]
  exact tail_none (drawn_none hk)
theorem op_tl {t : Subrs} {room : Nat} {r : Run} {k : Nat} (hk : k = 259 ∨ k = 260 ∨ k = 261 ∨ k = 265 ∨ k = 270 ∨ k = 266 ∨ k = 267 ∨ k = 280 ∨ k = 268 ∨ k = 282 ∨ k = 271 ∨ k = 278 ∨ k = 274 ∨ k = 283 ∨ k = 284 ∨ k = 276 ∨ k = 277 ∨ k = 285 ∨ k = 286) :
    operate t room k r = match reckon k r with
      | some (.inl z) => .bad z
      | some (.inr x) => .on { r with stack := x.1, cells := x.2 }
      | none => .bad (-4) := by
  have e1 : operate t room k r = tailOp room k r := by
    rcases hk with rfl | rfl | rfl | rfl | rfl | rfl | rfl | rfl | rfl | rfl | rfl | rfl | rfl | rfl | rfl | rfl | rfl | rfl | rfl <;> exact op_tail (by decide) (by decide) (by decide) (by decide) (by decide) (by decide) (by decide)
  have e2 : drawn k r.stack = none := by rcases hk with rfl | rfl | rfl | rfl | rfl | rfl | rfl | rfl | rfl | rfl | rfl | rfl | rfl | rfl | rfl | rfl | rfl | rfl | rfl <;> rfl
  rw [e1]
  exact tail_none e2
theorem made_rn {k : Nat} (hk : k = 259 ∨ k = 260 ∨ k = 261 ∨ k = 265 ∨ k = 270 ∨ k = 266 ∨ k = 267 ∨ k = 280 ∨ k = 268 ∨ k = 282 ∨ k = 271 ∨ k = 278) : k = 259 ∨ k = 260 ∨ k = 261 ∨ k = 265 ∨ k = 270 ∨ k = 266 ∨ k = 267 ∨ k = 280 ∨ k = 268 ∨ k = 282 ∨ k = 271 ∨ k = 278 ∨ k = 274 ∨ k = 283 ∨ k = 284 ∨ k = 276 ∨ k = 277 ∨ k = 285 ∨ k = 286 := by
  rcases hk with rfl | rfl | rfl | rfl | rfl | rfl | rfl | rfl | rfl | rfl | rfl | rfl <;> decide
theorem reckon_none {r : Run} {k : Nat} (hk : ¬ (k = 259 ∨ k = 260 ∨ k = 261 ∨ k = 265 ∨ k = 270 ∨ k = 266 ∨ k = 267 ∨ k = 280 ∨ k = 268 ∨ k = 282 ∨ k = 271 ∨ k = 278 ∨ k = 274 ∨ k = 283 ∨ k = 284 ∨ k = 276 ∨ k = 277 ∨ k = 285 ∨ k = 286)) : reckon k r = none := by
  unfold reckon
  simp only
  rw [if_neg (fun h => hk (.inl h)), if_neg (fun h => hk (.inr (.inl h))), if_neg (fun h => hk (.inr (.inr (.inl h)))), if_neg (fun h => hk (.inr (.inr (.inr (.inl h))))), if_neg (fun h => hk (.inr (.inr (.inr (.inr (.inl h)))))), if_neg (fun h => hk (.inr (.inr (.inr (.inr (.inr (.inl h))))))), if_neg (fun h => hk (.inr (.inr (.inr (.inr (.inr (.inr (.inl h)))))))), if_neg (fun h => hk (.inr (.inr (.inr (.inr (.inr (.inr (.inr (.inl h))))))))), if_neg (fun h => hk (.inr (.inr (.inr (.inr (.inr (.inr (.inr (.inr (.inl h)))))))))), if_neg (fun h => hk (.inr (.inr (.inr (.inr (.inr (.inr (.inr (.inr (.inr (.inl h))))))))))), if_neg (fun h => hk (.inr (.inr (.inr (.inr (.inr (.inr (.inr (.inr (.inr (.inr (.inl h)))))))))))), if_neg (fun h => hk (.inr (.inr (.inr (.inr (.inr (.inr (.inr (.inr (.inr (.inr (.inr (.inl h))))))))))))), if_neg (fun h => hk (.inr (.inr (.inr (.inr (.inr (.inr (.inr (.inr (.inr (.inr (.inr (.inr (.inl h)))))))))))))), if_neg (fun h => hk (.inr (.inr (.inr (.inr (.inr (.inr (.inr (.inr (.inr (.inr (.inr (.inr (.inr (.inl h))))))))))))))), if_neg (fun h => hk (.inr (.inr (.inr (.inr (.inr (.inr (.inr (.inr (.inr (.inr (.inr (.inr (.inr (.inr (.inl h)))))))))))))))), if_neg (fun h => hk (.inr (.inr (.inr (.inr (.inr (.inr (.inr (.inr (.inr (.inr (.inr (.inr (.inr (.inr (.inr (.inl h))))))))))))))))), if_neg (fun h => hk (.inr (.inr (.inr (.inr (.inr (.inr (.inr (.inr (.inr (.inr (.inr (.inr (.inr (.inr (.inr (.inr (.inl h)))))))))))))))))), if_neg (fun h => hk (.inr (.inr (.inr (.inr (.inr (.inr (.inr (.inr (.inr (.inr (.inr (.inr (.inr (.inr (.inr (.inr (.inr (.inl h))))))))))))))))))), if_neg (fun h => hk (.inr (.inr (.inr (.inr (.inr (.inr (.inr (.inr (.inr (.inr (.inr (.inr (.inr (.inr (.inr (.inr (.inr (.inr (h))))))))))))))))))))]
def rootFrom (n : Nat) : Nat → Nat → Nat
  | 0, r => r
  | k + 1, r => rootFrom n k (if (r + 2 ^ k) * (r + 2 ^ k) ≤ n then r + 2 ^ k else r)
theorem root_from (n : Nat) : ∀ (k r : Nat), (List.range k).reverse.foldl (fun r k => if (r + 2 ^ k) * (r + 2 ^ k) ≤ n then r + 2 ^ k else r) r = rootFrom n k r
  | 0, r => rfl
  | k + 1, r => by
    rw [List.range_succ, List.reverse_append, List.reverse_singleton, List.singleton_append, List.foldl_cons, root_from n k]; rfl
theorem root_eq {n : Nat} (h : n < 2 ^ 47) : Sa20.root n = rootFrom n 24 0 := by
  unfold Sa20.root
  rw [root_from]
  have st : ∀ k, 24 ≤ k → rootFrom n (k + 1) 0 = rootFrom n k 0 := by
    intro k hk
    show rootFrom n k (if (0 + 2 ^ k) * (0 + 2 ^ k) ≤ n then 0 + 2 ^ k else 0) = rootFrom n k 0
    rw [if_neg]
    have h1 : 2 ^ 24 ≤ 2 ^ k := Nat.pow_le_pow_right (by decide) hk
    have h2 : 2 ^ 24 * 2 ^ 24 ≤ 2 ^ k * 2 ^ k := Nat.mul_le_mul h1 h1
    rw [Nat.zero_add]
    have h3 : (2 : Nat) ^ 24 * 2 ^ 24 = 2 ^ 48 := by decide
    have h4 : (2 : Nat) ^ 47 < 2 ^ 48 := by decide
    omega
  rw [st 31 (by decide), st 30 (by decide), st 29 (by decide), st 28 (by decide), st 27 (by decide), st 26 (by decide), st 25 (by decide), st 24 (by decide)]
theorem rootFrom_lt {n : Nat} : ∀ (k r : Nat), rootFrom n k r < r + 2 ^ k
  | 0, r => by simp [rootFrom]
  | k + 1, r => by
    have := rootFrom_lt (n := n) k (if (r + 2 ^ k) * (r + 2 ^ k) ≤ n then r + 2 ^ k else r)
    show rootFrom n k _ < _
    rw [Nat.pow_succ]
    split at this <;> rename_i hc
    · rw [if_pos hc]; omega
    · rw [if_neg hc]; omega
def made (k : Nat) (l : List Int) : Option Int :=
  let a := l.getD 0 0
  let b := l.getD 1 0
  if k = 259 then some (truth (a != 0 && b != 0)) else if k = 260 then some (truth (a != 0 || b != 0)) else if k = 261 then some (truth (a == 0))
  else if k = 265 then some (if a < 0 then -a else a) else if k = 270 then some (-a)
  else if k = 266 then some (a + b) else if k = 267 then some (a - b) else if k = 280 then some (a * b / 65536)
  else if k = 268 then (if b = 0 then none else some ((65536 * a).tdiv b))
  else if k = 282 then (if a < 0 then none else some (Sa20.root (65536 * a).toNat : Nat))
  else if k = 271 then some (truth (a == b))
  else if k = 278 then some (if l.getD 2 0 ≤ l.getD 3 0 then a else b)
  else none
def madeOf (k : Nat) : Nat := if k = 261 ∨ k = 265 ∨ k = 270 ∨ k = 282 then 1 else if k = 278 then 4 else 2
theorem made_by {r : Run} {k n : Nat} {f : List Int → Option Int} (e : reckon k r = some (match top n r with
      | some x => (match f x.1 with
        | none => .inl (-8)
        | some z => if fits z = true then .inr (x.2 ++ [z], r.cells) else .inl (-8))
      | none => .inl (-3))) :
    reckon k r = some (if r.stack.length < n then .inl (-3) else match f (r.stack.drop (r.stack.length - n)) with
      | none => .inl (-8)
      | some z => if fits z = true then .inr (r.stack.take (r.stack.length - n) ++ [z], r.cells) else .inl (-8)) := by
  rw [e]
  unfold top
  by_cases h : r.stack.length < n
  · rw [if_pos h, if_pos h]
  · rw [if_neg h, if_neg h]
theorem made_268 (r : Run) : reckon 268 r = some (match top 2 r with
      | some x => (match made 268 x.1 with
        | none => .inl (-8)
        | some z => if fits z = true then .inr (x.2 ++ [z], r.cells) else .inl (-8))
      | none => .inl (-3)) := by
  show some (match top 2 r with
      | some x => (if x.1.getD 1 0 = 0 then (Sum.inl (-8) : Int ⊕ (List Int × List Int)) else if fits ((65536 * x.1.getD 0 0).tdiv (x.1.getD 1 0)) = true then .inr (x.2 ++ [(65536 * x.1.getD 0 0).tdiv (x.1.getD 1 0)], r.cells) else .inl (-8))
      | none => .inl (-3)) = some (match top 2 r with
      | some x => (match (if x.1.getD 1 0 = 0 then none else some ((65536 * x.1.getD 0 0).tdiv (x.1.getD 1 0)) : Option Int) with
        | none => (Sum.inl (-8) : Int ⊕ (List Int × List Int))
        | some z => if fits z = true then .inr (x.2 ++ [z], r.cells) else .inl (-8))
      | none => .inl (-3))
  cases top 2 r with
  | none => rfl
  | some x =>
    simp only
    by_cases h : x.1.getD 1 0 = 0
    · rw [if_pos h, if_pos h]
    · rw [if_neg h, if_neg h]
theorem made_282 (r : Run) : reckon 282 r = some (match top 1 r with
      | some x => (match made 282 x.1 with
        | none => .inl (-8)
        | some z => if fits z = true then .inr (x.2 ++ [z], r.cells) else .inl (-8))
      | none => .inl (-3)) := by
  show some (match top 1 r with
      | some x => (if x.1.getD 0 0 < 0 then (Sum.inl (-8) : Int ⊕ (List Int × List Int)) else if fits ((Sa20.root (65536 * x.1.getD 0 0).toNat : Nat) : Int) = true then .inr (x.2 ++ [((Sa20.root (65536 * x.1.getD 0 0).toNat : Nat) : Int)], r.cells) else .inl (-8))
      | none => .inl (-3)) = some (match top 1 r with
      | some x => (match (if x.1.getD 0 0 < 0 then none else some ((Sa20.root (65536 * x.1.getD 0 0).toNat : Nat) : Int) : Option Int) with
        | none => (Sum.inl (-8) : Int ⊕ (List Int × List Int))
        | some z => if fits z = true then .inr (x.2 ++ [z], r.cells) else .inl (-8))
      | none => .inl (-3))
  cases top 1 r with
  | none => rfl
  | some x =>
    simp only
    by_cases h : x.1.getD 0 0 < 0
    · rw [if_pos h, if_pos h]
    · rw [if_neg h, if_neg h]
theorem reckon_made {r : Run} {k : Nat} (hk : k = 259 ∨ k = 260 ∨ k = 261 ∨ k = 265 ∨ k = 270 ∨ k = 266 ∨ k = 267 ∨ k = 280 ∨ k = 268 ∨ k = 282 ∨ k = 271 ∨ k = 278) :
    reckon k r = some (if r.stack.length < madeOf k then .inl (-3) else match made k (r.stack.drop (r.stack.length - madeOf k)) with
      | none => .inl (-8)
      | some z => if fits z = true then .inr (r.stack.take (r.stack.length - madeOf k) ++ [z], r.cells) else .inl (-8)) := by
  rcases hk with rfl | rfl | rfl | rfl | rfl | rfl | rfl | rfl | rfl | rfl | rfl | rfl
  · exact made_by (n := 2) (f := made 259) rfl
  · exact made_by (n := 2) (f := made 260) rfl
  · exact made_by (n := 1) (f := made 261) rfl
  · exact made_by (n := 1) (f := made 265) rfl
  · exact made_by (n := 1) (f := made 270) rfl
  · exact made_by (n := 2) (f := made 266) rfl
  · exact made_by (n := 2) (f := made 267) rfl
  · exact made_by (n := 2) (f := made 280) rfl
  · exact made_by (n := 2) (f := made 268) (made_268 r)
  · exact made_by (n := 1) (f := made 282) (made_282 r)
  · exact made_by (n := 2) (f := made 271) rfl
  · exact made_by (n := 4) (f := made 278) rfl
theorem divided_eq {a b : Int} (hb : b ≠ 0) : (65536 * a).tdiv b =
    if (decide (a < 0)) = (decide (b < 0)) then (if a < 0 then -a else a) * 65536 / (if b < 0 then -b else b) else -((if a < 0 then -a else a) * 65536 / (if b < 0 then -b else b)) := by
  have pos : ∀ x y : Int, 0 ≤ x → 0 < y → (65536 * x).tdiv y = x * 65536 / y := fun x y hx hy => by
    rw [Int.tdiv_eq_ediv_of_nonneg (by omega), Int.mul_comm]
  by_cases ha : a < 0
  · by_cases hb2 : b < 0
    · rw [if_pos (by simp [ha, hb2]), if_pos ha, if_pos hb2, ← pos (-a) (-b) (by omega) (by omega)]
      have e : 65536 * -a = -(65536 * a) := by omega
      rw [e, Int.neg_tdiv, Int.tdiv_neg, Int.neg_neg]
    · rw [if_neg (by simp [ha, hb2]), if_pos ha, if_neg hb2, ← pos (-a) b (by omega) (by omega)]
      have e : 65536 * -a = -(65536 * a) := by omega
      rw [e, Int.neg_tdiv, Int.neg_neg]
  · by_cases hb2 : b < 0
    · rw [if_neg (by simp [ha, hb2]), if_neg ha, if_pos hb2, ← pos a (-b) (by omega) (by omega)]
      rw [Int.tdiv_neg, Int.neg_neg]
    · rw [if_pos (by simp [ha, hb2]), if_neg ha, if_neg hb2, ← pos a b (by omega) (by omega)]
end Mn
namespace Mn
open PySa20
theorem getElem?_of_drop {α : Type} {l r : List α} {j : Nat} {a : α} (h : l.drop j = a :: r) : l[j]? = some a ∧ l.drop (j + 1) = r ∧ j < l.length := by
  have hj : j < l.length := by
    refine Nat.lt_of_not_le fun q => ?_
    rw [List.drop_eq_nil_of_le q] at h; cases h
  rw [List.drop_eq_getElem_cons hj] at h
  injection h with h1 h2
  exact ⟨by rw [List.getElem?_eq_getElem hj, h1], h2, hj⟩
theorem row_some {m x s : List Int} (h : PyFlat.row m = some (x, s)) : ∃ (n : Nat) (r : List Int), m = (n : Int) :: r ∧ n ≤ r.length ∧ x = r.take n ∧ s = r.drop n := by
  cases m with
  | nil => cases h
  | cons n r =>
    have h : (if 0 ≤ n ∧ n.toNat ≤ r.length then some (List.take n.toNat r, List.drop n.toNat r) else none) = some (x, s) := h
    by_cases hc : 0 ≤ n ∧ n.toNat ≤ r.length
    · rw [if_pos hc] at h
      have h := Option.some.inj h
      injection h with e1 e2
      exact ⟨n.toNat, r, by rw [Int.toNat_of_nonneg hc.1], hc.2, e1.symm, e2.symm⟩
    · rw [if_neg hc] at h
      cases h
theorem row_at {l x s : List Int} {j : Nat} (h : PyFlat.row (l.drop j) = some (x, s)) : ∃ n : Nat, l[j]? = some (n : Int) ∧ j + 1 + n ≤ l.length ∧ x = (l.drop (j + 1)).take n ∧ s = l.drop (j + 1 + n) ∧ x.length = n := by
  obtain ⟨n, r, e, hn, hx, hs⟩ := row_some h
  obtain ⟨h1, h2, h3⟩ := getElem?_of_drop e
  subst h2
  rw [List.length_drop] at hn
  refine ⟨n, h1, by omega, hx, ?_, ?_⟩
  · rw [hs, List.drop_drop]
  · rw [hx, List.length_take, List.length_drop]; omega
theorem call_two {l : List Int} {j : Nat} {c : List (List Int)} {t : List Int} (h : PyFlat.call shape (l.drop j) = some (c, t)) :
    (∃ (x0 : Int) (n m : Nat), l[j]? = some 0 ∧ l[j + 1]? = some x0 ∧ l[j + 2]? = some (n : Int) ∧ l[j + 3 + n]? = some (m : Int) ∧ j + 4 + n + m ≤ l.length ∧
      c = [[0, x0], (l.drop (j + 3)).take n, (l.drop (j + 4 + n)).take m] ∧ t = l.drop (j + 4 + n + m) ∧ ((l.drop (j + 3)).take n).length = n ∧ ((l.drop (j + 4 + n)).take m).length = m) ∨
    (∃ (x0 : Int) (n : Nat), l[j]? = some 1 ∧ l[j + 1]? = some x0 ∧ l[j + 2]? = some (n : Int) ∧ j + 3 + n ≤ l.length ∧ c = [[1, x0], (l.drop (j + 3)).take n] ∧ t = l.drop (j + 3 + n) ∧ ((l.drop (j + 3)).take n).length = n) := by
  cases hd : l.drop j with
  | nil => rw [hd] at h; cases h
  | cons p r =>
    rw [hd] at h
    obtain ⟨h1, h2, h3⟩ := getElem?_of_drop hd
    unfold PyFlat.call at h
    simp only at h
    unfold shape at h
    by_cases hp : p = 0
    · subst hp
      rw [if_pos rfl] at h
      simp only at h
      split at h
      · cases h
      · rename_i hl
        cases hr : r with
        | nil => rw [hr] at hl; simp at hl
        | cons x0 r' =>
          rw [hr] at h2
          obtain ⟨g1, g2, g3⟩ := getElem?_of_drop h2
          rw [hr] at h
          simp only [List.drop_succ_cons, List.drop_zero, List.take_succ_cons, List.take_zero] at h
          rw [← g2] at h
          unfold PyFlat.rows at h
          split at h
          · cases h
          · rename_i xs t' hrows
            split at hrows
            · cases hrows
            · rename_i a s ha
              obtain ⟨n, k1, k2, k3, k4, k5⟩ := row_at ha
              split at hrows
              · cases hrows
              · rename_i ys t2 hrows2
                unfold PyFlat.rows at hrows2
                split at hrows2
                · cases hrows2
                · rename_i b s2 hb
                  rw [k4] at hb
                  obtain ⟨m, q1, q2, q3, q4, q5⟩ := row_at hb
                  unfold PyFlat.rows at hrows2
                  simp only [Option.some.injEq, Prod.mk.injEq] at hrows2 hrows h
                  obtain ⟨e1, e2⟩ := hrows2
                  obtain ⟨e3, e4⟩ := hrows
                  obtain ⟨e5, e6⟩ := h
                  have a1 : j + 1 + 1 + 1 = j + 3 := by omega
                  have a2 : j + 1 + 1 + 1 + n = j + 3 + n := by omega
                  have a3 : j + 3 + n + 1 = j + 4 + n := by omega
                  rw [a1] at k3 k2; rw [a2, a3] at q3 q4; rw [a2] at q1 q2
                  refine .inl ⟨x0, n, m, h1, g1, k1, q1, by omega, ?_, ?_, by rw [← k3]; exact k5, by rw [← q3]; exact q5⟩
                  · rw [← e5, ← e3, ← e1, k3, q3]
                  · rw [← e6, ← e4, ← e2, q4]
    · rw [if_neg hp] at h
      by_cases hp1 : p = 1
      · subst hp1
        rw [if_pos rfl] at h
        simp only at h
        split at h
        · cases h
        · rename_i hl
          cases hr : r with
          | nil => rw [hr] at hl; simp at hl
          | cons x0 r' =>
            rw [hr] at h2
            obtain ⟨g1, g2, g3⟩ := getElem?_of_drop h2
            rw [hr] at h
            simp only [List.drop_succ_cons, List.drop_zero, List.take_succ_cons, List.take_zero] at h
            rw [← g2] at h
            unfold PyFlat.rows at h
            split at h
            · cases h
            · rename_i xs t' hrows
              split at hrows
              · cases hrows
              · rename_i a s ha
                obtain ⟨n, k1, k2, k3, k4, k5⟩ := row_at ha
                unfold PyFlat.rows at hrows
                simp only [Option.some.injEq, Prod.mk.injEq] at hrows h
                obtain ⟨e3, e4⟩ := hrows
                obtain ⟨e5, e6⟩ := h
                have a1 : j + 1 + 1 + 1 = j + 3 := by omega
                have a2 : j + 1 + 1 + 1 + n = j + 3 + n := by omega
                rw [a1] at k3 k2; rw [a2] at k4
                refine .inr ⟨x0, n, h1, g1, k1, by omega, ?_, ?_, by rw [← k3]; exact k5⟩
                · rw [← e5, ← e3, k3]
                · rw [← e6, ← e4, k4]
      · rw [if_neg hp1] at h; cases h
theorem calls_cons {l : List Int} {j f : Nat} {cs : List (List (List Int))} (hj : j < l.length) (h : PyFlat.calls shape f (l.drop j) = some cs) :
    ∃ c t cs' f', PyFlat.call shape (l.drop j) = some (c, t) ∧ PyFlat.calls shape f' t = some cs' ∧ cs = c :: cs' := by
  rw [List.drop_eq_getElem_cons hj] at h ⊢
  cases f with
  | zero => cases h
  | succ f =>
    unfold PyFlat.calls at h
    split at h
    · cases h
    · rename_i c t hc
      split at h
      · cases h
      · rename_i cs' hcs
        exact ⟨c, t, cs', f, hc, hcs, (Option.some.inj h).symm⟩
theorem calls_nil {l : List Int} {j f : Nat} {cs : List (List (List Int))} (hj : l.length ≤ j) (h : PyFlat.calls shape f (l.drop j) = some cs) : cs = [] := by
  rw [List.drop_eq_nil_of_le hj] at h
  cases f <;> (unfold PyFlat.calls at h; exact (Option.some.inj h).symm)
def byteList (l : List Int) : Prop := ∀ z ∈ l, 0 ≤ z ∧ z ≤ 255
theorem bytes_back {l : List Int} (h : byteList l) : (Sa20Neutral.bytesOf l).map bz = l := by
  unfold Sa20Neutral.bytesOf
  rw [List.map_map]
  conv => rhs; rw [← List.map_id l]
  refine List.map_congr_left fun z hz => ?_
  obtain ⟨h0, h1⟩ := h z hz
  show ((UInt8.ofNat z.toNat).toNat : Int) = z
  rw [UInt8.toNat_ofNat', Nat.mod_eq_of_lt (by omega)]
  omega
theorem natural8 {z : Int} (h : Sa20Neutral.natural z 8 = true) : 0 ≤ z ∧ z ≤ 255 := by
  unfold Sa20Neutral.natural at h
  rw [Bool.and_eq_true, decide_eq_true_eq, decide_eq_true_eq] at h
  have : (2 : Int) ^ 8 = 256 := by decide
  rw [this] at h; omega
theorem natural32 {z : Int} (h : Sa20Neutral.natural z 32 = true) : 0 ≤ z := by
  unfold Sa20Neutral.natural at h
  rw [Bool.and_eq_true, decide_eq_true_eq, decide_eq_true_eq] at h
  exact h.1
theorem asked_subrs {x0 n m : Int} {b e : List Int} (h : Sa20Neutral.asked1 [[0, x0, n, m], b, e] = true) : byteList b ∧ (∀ z ∈ e, 0 ≤ z) := by
  unfold Sa20Neutral.asked1 at h
  simp only [Bool.and_eq_true, List.all_eq_true] at h
  obtain ⟨_, _, _, h1, h2, _⟩ := h
  exact ⟨fun z hz => natural8 (h1 z hz), fun z hz => natural32 (h2 z hz)⟩
theorem asked_run {x0 n : Int} {b : List Int} (h : Sa20Neutral.asked1 [[1, n, x0], b] = true) : byteList b := by
  unfold Sa20Neutral.asked1 at h
  simp only [Bool.and_eq_true, List.all_eq_true] at h
  obtain ⟨_, _, h1, _⟩ := h
  exact fun z hz => natural8 (h1 z hz)
def runAns (s : Sa20.Subrs) (room : Nat) (code : Sa20.Bytes) : List Int := match Sa20.run s room Sa20.ENOUGH (Sa20.first code) with
  | some (.inl r) => (r.out.length : Int) :: r.width.getD (-2147483648) :: r.out
  | some (.inr k) => [k]
  | none => []
theorem step_run {s : Sa20.Subrs} {b : List Int} {most : Int} (hb : b.length ≤ 65536) (hneg : ∀ k, Sa20.run s most.toNat Sa20.ENOUGH (Sa20.first (Sa20Neutral.bytesOf b)) = some (.inr k) → k < 0)
    (hsome : Sa20.run s most.toNat Sa20.ENOUGH (Sa20.first (Sa20Neutral.bytesOf b)) ≠ none) :
    Sa20Neutral.step s [[1, (b.length : Int), most], b] = (s, if 0 ≤ most ∧ most ≤ 1048576 then runAns s most.toNat (Sa20Neutral.bytesOf b) else [-1]) := by
  have hN : Sa20.NONE = -2147483648 := by decide
  unfold Sa20Neutral.step Sa20Neutral.callOf
  simp only
  unfold Sa20.spec
  simp only
  have e1 : Sa20.within (b.length : Int) 0 65536 = true := by
    unfold Sa20.within; rw [Bool.and_eq_true, decide_eq_true_eq, decide_eq_true_eq]; omega
  have e2 : Sa20.within most 0 1048576 = true ↔ 0 ≤ most ∧ most ≤ 1048576 := by
    unfold Sa20.within; rw [Bool.and_eq_true, decide_eq_true_eq, decide_eq_true_eq]
  by_cases hm : 0 ≤ most ∧ most ≤ 1048576
  · rw [if_pos ⟨e1, e2.mpr hm⟩, if_pos hm]
    unfold runAns
    cases hr : Sa20.run s most.toNat Sa20.ENOUGH (Sa20.first (Sa20Neutral.bytesOf b)) with
    | none => exact absurd hr hsome
    | some x =>
      cases x with
      | inl r =>
        simp only
        rw [if_neg (by omega), hN]
      | inr k =>
        have := hneg k hr
        exact congrArg (fun z => (s, z)) (if_pos (show k < 0 from this))
  · rw [if_neg (by rw [e2]; exact fun q => hm q.2), if_neg hm]
    rfl
end Mn
namespace Mn
open Sa20
instance fitDec (z : Int) : Decidable (fit z) := inferInstanceAs (Decidable (_ ∧ _))
theorem snoc_of {α : Type} {l : List α} (h : 1 ≤ l.length) : ∃ s a, l = s ++ [a] := by
  rcases List.eq_nil_or_concat l with e | ⟨s, a, e⟩
  · rw [e] at h; simp at h
  · exact ⟨s, a, by rw [e, List.concat_eq_append]⟩
theorem snoc2_of {α : Type} {l : List α} (h : 2 ≤ l.length) : ∃ s a b, l = s ++ [a, b] := by
  obtain ⟨s, b, e⟩ := snoc_of (l := l) (by omega)
  have h1 : 1 ≤ s.length := by rw [e, List.length_append, List.length_singleton] at h; omega
  obtain ⟨s', a, e'⟩ := snoc_of h1
  exact ⟨s', a, b, by rw [e, e', List.append_assoc]; rfl⟩
theorem top1 {q : Run} {s : List Int} {a : Int} (e : q.stack = s ++ [a]) : Sa20.top 1 q = some ([a], s) := by
  unfold Sa20.top
  have h : q.stack.length = s.length + 1 := by rw [e]; simp
  rw [if_neg (by omega), h, e]; simp
theorem top2 {q : Run} {s : List Int} {a b : Int} (e : q.stack = s ++ [a, b]) : Sa20.top 2 q = some ([a, b], s) := by
  unfold Sa20.top
  have h : q.stack.length = s.length + 2 := by rw [e]; simp
  rw [if_neg (by omega), h, e]; simp
theorem top_short {q : Run} {n : Nat} (h : q.stack.length < n) : Sa20.top n q = none := by
  unfold Sa20.top; rw [if_pos h]
theorem keep_short {t : Subrs} {room k : Nat} {q : Run} (hk : ((k = 274 ∨ k = 283 ∨ k = 277 ∨ k = 285) ∧ q.stack.length < 1) ∨ ((k = 284 ∨ k = 276 ∨ k = 286) ∧ q.stack.length < 2)) : operate t room k q = .bad (-3) := by
  have key : ∀ n, q.stack.length < n → (k = 274 ∨ k = 283 ∨ k = 277 ∨ k = 285) ∧ n = 1 ∨ (k = 284 ∨ k = 276 ∨ k = 286) ∧ n = 2 → reckon k q = some (.inl (-3)) := by
    intro n hn hk
    have e : ∀ f : List Int × List Int → Int ⊕ (List Int × List Int), (some (match top n q with
      | some x => f x
      | none => .inl (-3)) : Option (Int ⊕ (List Int × List Int))) = some (.inl (-3)) := fun f => by rw [top_short hn]
    rcases hk with ⟨rfl | rfl | rfl | rfl, rfl⟩ | ⟨rfl | rfl | rfl, rfl⟩ <;> exact e _
  rcases hk with ⟨h, hl⟩ | ⟨h, hl⟩
  · rw [op_tl (by rcases h with rfl | rfl | rfl | rfl <;> decide), key 1 hl (.inl ⟨h, rfl⟩)]
  · rw [op_tl (by rcases h with rfl | rfl | rfl <;> decide), key 2 hl (.inr ⟨h, rfl⟩)]
theorem op_drop {t : Subrs} {room : Nat} {q : Run} {s : List Int} {a : Int} (e : q.stack = s ++ [a]) : operate t room 274 q = .on { q with stack := s } := by
  have key : reckon 274 q = some (.inr (s, q.cells)) := by unfold reckon; simp only [top1 e, Nat.reduceEqDiff, if_false, if_true]
  rw [op_tl (by decide), key]
theorem op_double {t : Subrs} {room : Nat} {q : Run} {s : List Int} {a : Int} (e : q.stack = s ++ [a]) : operate t room 283 q = if 48 ≤ q.stack.length then .bad (-2) else .on { q with stack := q.stack ++ [a] } := by
  have key : reckon 283 q = some (if 48 ≤ q.stack.length then .inl (-2) else .inr (q.stack ++ [a], q.cells)) := by
    unfold reckon
    simp only [top1 e, Nat.reduceEqDiff, if_false, if_true, List.getD_cons_zero]
    rw [e, List.append_assoc]; rfl
  rw [op_tl (by decide), key]
  by_cases h : 48 ≤ q.stack.length
  · rw [if_pos h, if_pos h]
  · rw [if_neg h, if_neg h]
theorem op_swap {t : Subrs} {room : Nat} {q : Run} {s : List Int} {a b : Int} (e : q.stack = s ++ [a, b]) : operate t room 284 q = .on { q with stack := s ++ [b, a] } := by
  have key : reckon 284 q = some (.inr (s ++ [b, a], q.cells)) := by unfold reckon; simp only [top2 e, Nat.reduceEqDiff, if_false, if_true, List.getD_cons_zero, List.getD_cons_succ]
  rw [op_tl (by decide), key]
theorem op_put {t : Subrs} {room : Nat} {q : Run} {s : List Int} {a i : Int} (e : q.stack = s ++ [a, i]) : operate t room 276 q = if 0 ≤ i / 65536 ∧ i / 65536 < 32 then .on { q with stack := s, cells := q.cells.set (i / 65536).toNat a } else .bad (-8) := by
  have key : reckon 276 q = some (if i / 65536 < 0 ∨ 31 < i / 65536 then .inl (-8) else .inr (s, q.cells.set (i / 65536).toNat a)) := by
    unfold reckon
    simp only [top2 e, Nat.reduceEqDiff, if_false, if_true, List.getD_cons_zero, List.getD_cons_succ, Sa20.whole]
  rw [op_tl (by decide), key]
  by_cases h : 0 ≤ i / 65536 ∧ i / 65536 < 32
  · rw [if_pos h, if_neg (by omega)]
  · rw [if_neg h, if_pos (by omega)]
theorem op_get {t : Subrs} {room : Nat} {q : Run} {s : List Int} {i : Int} (hf : Fits q.cells) (e : q.stack = s ++ [i]) : operate t room 277 q = if 0 ≤ i / 65536 ∧ i / 65536 < 32 then .on { q with stack := s ++ [q.cells.getD (i / 65536).toNat 0] } else .bad (-8) := by
  have key : reckon 277 q = some (if i / 65536 < 0 ∨ 31 < i / 65536 then .inl (-8) else .inr (s ++ [q.cells.getD (i / 65536).toNat 0], q.cells)) := by
    unfold reckon
    simp only [top1 e, Nat.reduceEqDiff, if_false, if_true, List.getD_cons_zero, Sa20.whole]
    rw [if_pos (fits_iff.mpr (hf.getD _))]
  rw [op_tl (by decide), key]
  by_cases h : 0 ≤ i / 65536 ∧ i / 65536 < 32
  · rw [if_pos h, if_neg (by omega)]
  · rw [if_neg h, if_pos (by omega)]
theorem op_more {t : Subrs} {room : Nat} {q : Run} {s : List Int} {i : Int} (hf : Fits q.stack) (e : q.stack = s ++ [i]) : operate t room 285 q = if s.length ≤ (i / 65536).toNat then .bad (-8) else .on { q with stack := s ++ [s.getD (s.length - 1 - (i / 65536).toNat) 0] } := by
  have hs : Fits s := fun z hz => hf z (by rw [e]; exact List.mem_append_left _ hz)
  have key : reckon 285 q = some (if s.length ≤ (i / 65536).toNat then .inl (-8) else .inr (s ++ [s.getD (s.length - 1 - (i / 65536).toNat) 0], q.cells)) := by
    unfold reckon
    simp only [top1 e, Nat.reduceEqDiff, if_false, if_true, List.getD_cons_zero, Sa20.whole]
    rw [if_pos (fits_iff.mpr (hs.getD _))]
  rw [op_tl (by decide), key]
  by_cases h : s.length ≤ (i / 65536).toNat
  · rw [if_pos h, if_pos h]
  · rw [if_neg h, if_neg h]
theorem op_turn {t : Subrs} {room : Nat} {q : Run} {s : List Int} {n j : Int} (e : q.stack = s ++ [n, j]) : operate t room 286 q = if n / 65536 < 0 ∨ (s.length : Int) < n / 65536 then .bad (-8) else
    .on { q with stack := s.take (s.length - (n / 65536).toNat) ++ turned (s.drop (s.length - (n / 65536).toNat)) (j / 65536) } := by
  have key : reckon 286 q = some (if n / 65536 < 0 ∨ (s.length : Int) < n / 65536 then .inl (-8) else .inr (s.take (s.length - (n / 65536).toNat) ++ turned (s.drop (s.length - (n / 65536).toNat)) (j / 65536), q.cells)) := by
    unfold reckon
    simp only [top2 e, Nat.reduceEqDiff, if_false, if_true, List.getD_cons_zero, List.getD_cons_succ, Sa20.whole]
  rw [op_tl (by decide), key]
  by_cases h : n / 65536 < 0 ∨ (s.length : Int) < n / 65536
  · rw [if_pos h, if_pos h]
  · rw [if_neg h, if_neg h]
theorem op_made {t : Subrs} {room k : Nat} {q : Run} (hk : k = 259 ∨ k = 260 ∨ k = 261 ∨ k = 265 ∨ k = 270 ∨ k = 266 ∨ k = 267 ∨ k = 280 ∨ k = 268 ∨ k = 282 ∨ k = 271 ∨ k = 278) :
    operate t room k q = if q.stack.length < madeOf k then .bad (-3) else match made k (q.stack.drop (q.stack.length - madeOf k)) with
      | none => .bad (-8)
      | some z => if fit z then .on { q with stack := q.stack.take (q.stack.length - madeOf k) ++ [z] } else .bad (-8) := by
  rw [op_tl (made_rn hk), reckon_made hk]
  by_cases h : q.stack.length < madeOf k
  · rw [if_pos h, if_pos h]
  · rw [if_neg h, if_neg h]
    cases made k (q.stack.drop (q.stack.length - madeOf k)) with
    | none => rfl
    | some z =>
      by_cases hz : fit z
      · simp only [if_pos hz, if_pos (fits_iff.mpr hz)]
      · simp only [if_neg hz, if_neg (fun c => hz (fits_iff.mp c))]
def good1 (n : Int) : Prop := 2 ≤ n ∧ n % 2 = 0
theorem op_stems {t : Subrs} {room k : Nat} {q : Run} (hk : k = 1 ∨ k = 3 ∨ k = 18 ∨ k = 23) : operate t room k q = match without q (fun n => decide (2 ≤ (n : Int) ∧ (n : Int) % 2 = 0)) with
    | none => .bad (-3)
    | some x => match hinted x.2 (x.1.length / 2) with
      | none => .bad (-11)
      | some q => .on q := by
  unfold operate
  rw [if_pos (by omega)]
  have e : (fun n : Nat => decide (0 < n) && n % 2 == 0) = fun n : Nat => decide (2 ≤ (n : Int) ∧ (n : Int) % 2 = 0) := by
    funext n
    rw [Bool.eq_iff_iff, Bool.and_eq_true, decide_eq_true_eq, beq_iff_eq, decide_eq_true_eq]
    omega
  rw [e]
  rcases without q _ with _ | x
  · rfl
  · show (match hinted x.2 (x.1.length / 2) with | none => _ | some q => _) = (match hinted x.2 (x.1.length / 2) with | none => _ | some q => _)
    cases hinted x.2 (x.1.length / 2) <;> rfl
theorem op_mask {t : Subrs} {room k : Nat} {q : Run} (hk : k = 19 ∨ k = 20) : operate t room k q = match without q (fun n => decide ((n : Int) % 2 = 0)) with
    | none => .bad (-3)
    | some x => match hinted x.2 (x.1.length / 2) with
      | none => .bad (-11)
      | some q => if (rest q).length < (q.hints + 7) / 8 then .bad (-7) else .on (behind q ((q.hints + 7) / 8)) := by
  unfold operate
  rw [if_neg (by omega), if_pos (by omega)]
  have e : (fun n : Nat => n % 2 == 0) = fun n : Nat => decide ((n : Int) % 2 = 0) := by
    funext n
    rw [Bool.eq_iff_iff, beq_iff_eq, decide_eq_true_eq]
    omega
  rw [e]
  rcases without q _ with _ | x
  · rfl
  · show (match hinted x.2 (x.1.length / 2) with | none => _ | some q => _) = (match hinted x.2 (x.1.length / 2) with | none => _ | some q => _)
    cases hinted x.2 (x.1.length / 2) <;> rfl
theorem op_move {t : Subrs} {room : Nat} {q : Run} : operate t room 21 q = match without q (fun n => decide ((n : Int) = 2)) with
    | none => .bad (-3)
    | some x => opened room x.2 (x.1.getD 0 0, x.1.getD 1 0) := by
  unfold operate
  rw [if_neg (by omega), if_neg (by omega), if_pos (by omega)]
  have e : (fun n : Nat => n == 2) = fun n : Nat => decide ((n : Int) = 2) := by
    funext n
    rw [Bool.eq_iff_iff, beq_iff_eq, decide_eq_true_eq]
    omega
  rw [e]
  rcases without q _ with _ | x
  · rfl
  · rfl
theorem op_moveXY {t : Subrs} {room k : Nat} {q : Run} (hk : k = 22 ∨ k = 4) : operate t room k q = match without q (fun n => decide ((n : Int) = 1)) with
    | none => .bad (-3)
    | some x => opened room x.2 (if k = 22 then (x.1.headD 0, 0) else (0, x.1.headD 0)) := by
  unfold operate
  rw [if_neg (by omega), if_neg (by omega), if_neg (by omega), if_pos (by omega)]
  have e : (fun n : Nat => n == 1) = fun n : Nat => decide ((n : Int) = 1) := by
    funext n
    rw [Bool.eq_iff_iff, beq_iff_eq, decide_eq_true_eq]
    omega
  rw [e]
  rcases without q _ with _ | x
  · rfl
  · rfl
theorem op_end {t : Subrs} {room : Nat} {q : Run} : operate t room 14 q = match without q (fun n => decide ((n : Int) = 0)) with
    | none => .bad (-3)
    | some x => if x.2.path = false then .over x.2 else match written room x.2 [3] with
      | none => .bad (-9)
      | some q => .over q := by
  unfold operate
  rw [if_neg (by omega), if_neg (by omega), if_neg (by omega), if_neg (by omega), if_pos rfl]
  have e : (fun n : Nat => n == 0) = fun n : Nat => decide ((n : Int) = 0) := by
    funext n
    rw [Bool.eq_iff_iff, beq_iff_eq, decide_eq_true_eq]
    omega
  rw [e]
  rcases without q _ with _ | x
  · rfl
  · show (if x.2.path = false then _ else _) = (if x.2.path = false then _ else _)
    cases written room x.2 [3] <;> rfl
def theCall (l : List Bytes) (q : Run) : End := if q.stack.length < 1 then .bad (-3) else
  let i := q.stack.getD (q.stack.length - 1) 0 / 65536 + (if (l.length : Int) < 1240 then 107 else 1131)
  if i < 0 ∨ (l.length : Int) ≤ i then .bad (-5) else if 11 ≤ q.frames.length then .bad (-6) else .on { q with stack := q.stack.take (q.stack.length - 1), frames := ⟨l.getD i.toNat [], 0⟩ :: q.frames }
theorem op_call {t : Subrs} {room k : Nat} {q : Run} (hk : k = 10 ∨ k = 29) (h1 : t.own.length < 33900) (h2 : t.common.length < 33900) : operate t room k q = theCall (if k = 10 then t.own else t.common) q := by
  unfold operate theCall
  rw [if_neg (by omega), if_neg (by omega), if_neg (by omega), if_neg (by omega), if_neg (by omega), if_pos (by omega)]
  generalize hl : (if k = 10 then t.own else t.common) = l
  have hll : l.length < 33900 := by rw [← hl]; split <;> assumption
  by_cases h : q.stack.length < 1
  · rw [top_short h, if_pos h]
  · rw [if_neg h]
    obtain ⟨s, a, e⟩ := snoc_of (l := q.stack) (by omega)
    rw [top1 e]
    have e1 : q.stack.getD (q.stack.length - 1) 0 = a := by rw [e]; simp
    have e2 : q.stack.take (q.stack.length - 1) = s := by rw [e]; simp
    have e3 : Sa20.bias l.length = (if (l.length : Int) < 1240 then 107 else 1131) := by
      unfold Sa20.bias
      by_cases c : l.length < 1240
      · rw [if_pos c, if_pos (by omega)]
      · rw [if_neg c, if_pos hll, if_neg (by omega)]
    simp only [e1, e2, List.headD_cons, Sa20.whole, e3]
    generalize a / 65536 + (if (l.length : Int) < 1240 then 107 else 1131) = i
    by_cases c : i < 0
    · rw [if_pos c, if_pos (.inl c)]
    · rw [if_neg c]
      by_cases c2 : (l.length : Int) ≤ i
      · rw [if_pos (.inr c2), List.getElem?_eq_none (by omega)]
      · rw [if_neg (by omega), List.getElem?_eq_getElem (by omega)]
        simp only
        congr 4
        rw [List.getD_eq_getElem?_getD, List.getElem?_eq_getElem (by omega)]; rfl
theorem op_leave {t : Subrs} {room : Nat} {q : Run} : operate t room 11 q = if q.frames.length ≤ 1 then .bad (-7) else .on { q with frames := q.frames.drop 1 } := by
  unfold operate
  rw [if_neg (by omega), if_neg (by omega), if_neg (by omega), if_neg (by omega), if_neg (by omega), if_neg (by omega), if_pos rfl]
def places : Run → List Step → Option (Run × List Int)
  | q, [] => some (q, [])
  | q, s :: l => match moved q s with
    | none => none
    | some p => (places p l).map fun x => (x.1, p.x :: p.y :: x.2)
def piece (room : Nat) (hd : List Int) (q : Run) (l : List Step) : End := match places q l with
  | none => .bad (-8)
  | some x => match written room x.1 (hd ++ x.2) with
    | none => .bad (-9)
    | some u => .on u
def thenDraw (room : Nat) (l : List Seg) : End → End
  | .on u => draw room l u
  | e => e
theorem draw_cons (room : Nat) (s : Seg) (l : List Seg) (q : Run) : draw room (s :: l) q = thenDraw room l (piece room (if (sg s).length = 1 then [1] else [2]) q (sg s)) := by
  cases s with
  | line a =>
    unfold piece
    simp only [sg, places]
    show (match moved q a with | none => End.bad (-8) | some p => match written room p [1, p.x, p.y] with | none => .bad (-9) | some q => draw room l q) = _
    cases moved q a with
    | none => rfl
    | some p =>
      simp only [Option.map_some]
      show _ = thenDraw room l (match written room p [1, p.x, p.y] with | none => .bad (-9) | some u => .on u)
      cases written room p [1, p.x, p.y] <;> rfl
  | curve a b c =>
    unfold piece
    simp only [sg, places]
    show (match moved q a with
      | none => End.bad (-8)
      | some p => match moved p b with
        | none => .bad (-8)
        | some q => match moved q c with
          | none => .bad (-8)
          | some t => match written room t [2, p.x, p.y, q.x, q.y, t.x, t.y] with
            | none => .bad (-9)
            | some u => draw room l u) = _
    cases moved q a with
    | none => rfl
    | some p =>
      simp only
      cases moved p b with
      | none => rfl
      | some p2 =>
        simp only
        cases moved p2 c with
        | none => rfl
        | some p3 =>
          simp only [Option.map_some]
          show _ = thenDraw room l (match written room p3 [2, p.x, p.y, p2.x, p2.y, p3.x, p3.y] with | none => .bad (-9) | some u => .on u)
          cases written room p3 [2, p.x, p.y, p2.x, p2.y, p3.x, p3.y] <;> rfl
theorem opened_piece (room : Nat) (q : Run) (s : Step) : opened room q s = piece room (if q.path = true then [3, 0] else [0]) { q with path := true } [s] := by
  unfold opened piece
  simp only [places]
  unfold moved
  by_cases h : fits (q.x + s.1) = true ∧ fits (q.y + s.2) = true
  · rw [if_pos h, if_pos h]
    simp only [Option.map_some]
    unfold written
    by_cases hp : q.path = true
    · simp only [hp, if_true]
      simp only [List.cons_append, List.nil_append]
      by_cases hw : room < q.out.length + [3, 0, q.x + s.1, q.y + s.2].length
      · simp only [if_pos hw]
      · simp only [if_neg hw]
    · have hp' : q.path = false := by cases hq : q.path <;> simp_all
      simp only [hp', Bool.false_eq_true, if_false]
      simp only [List.cons_append, List.nil_append]
      by_cases hw : room < q.out.length + [0, q.x + s.1, q.y + s.2].length
      · simp only [if_pos hw]
      · simp only [if_neg hw]
  · rw [if_neg h, if_neg h]
end Mn
namespace Mn
open Sa20
theorem need_inl {r : Run} {n : Nat} {f : List Int × List Int → Int ⊕ (List Int × List Int)} {z : Int} (e : some (match top n r with | some x => f x | none => .inl (-3)) = some (.inl z)) (hf : ∀ x, f x = .inl z → z < 0) : z < 0 := by
  have e := Option.some.inj e
  split at e
  · exact hf _ e
  · injection e with e; omega
theorem reckon_inl {k : Nat} {r : Run} {z : Int} (e : reckon k r = some (.inl z)) : z < 0 := by
  unfold reckon at e
  simp only at e
  by_cases h259 : k = 259
  · rw [if_pos h259] at e
    refine need_inl e fun x h => ?_
    try simp only at h
    repeat' split at h
    all_goals first | (cases h; done) | (injection h with h; omega)
  rw [if_neg h259] at e
  by_cases h260 : k = 260
  · rw [if_pos h260] at e
    refine need_inl e fun x h => ?_
    try simp only at h
    repeat' split at h
    all_goals first | (cases h; done) | (injection h with h; omega)
  rw [if_neg h260] at e
  by_cases h261 : k = 261
  · rw [if_pos h261] at e
    refine need_inl e fun x h => ?_
    try simp only at h
    repeat' split at h
    all_goals first | (cases h; done) | (injection h with h; omega)
  rw [if_neg h261] at e
  by_cases h265 : k = 265
  · rw [if_pos h265] at e
    refine need_inl e fun x h => ?_
    try simp only at h
    repeat' split at h
    all_goals first | (cases h; done) | (injection h with h; omega)
  rw [if_neg h265] at e
  by_cases h270 : k = 270
  · rw [if_pos h270] at e
    refine need_inl e fun x h => ?_
    try simp only at h
    repeat' split at h
    all_goals first | (cases h; done) | (injection h with h; omega)
  rw [if_neg h270] at e
  by_cases h266 : k = 266
  · rw [if_pos h266] at e
    refine need_inl e fun x h => ?_
    try simp only at h
    repeat' split at h
    all_goals first | (cases h; done) | (injection h with h; omega)
  rw [if_neg h266] at e
  by_cases h267 : k = 267
  · rw [if_pos h267] at e
    refine need_inl e fun x h => ?_
    try simp only at h
    repeat' split at h
    all_goals first | (cases h; done) | (injection h with h; omega)
  rw [if_neg h267] at e
  by_cases h280 : k = 280
  · rw [if_pos h280] at e
    refine need_inl e fun x h => ?_
    try simp only at h
    repeat' split at h
    all_goals first | (cases h; done) | (injection h with h; omega)
  rw [if_neg h280] at e
  by_cases h268 : k = 268
  · rw [if_pos h268] at e
    refine need_inl e fun x h => ?_
    try simp only at h
    repeat' split at h
    all_goals first | (cases h; done) | (injection h with h; omega)
  rw [if_neg h268] at e
  by_cases h282 : k = 282
  · rw [if_pos h282] at e
    refine need_inl e fun x h => ?_
    try simp only at h
    repeat' split at h
    all_goals first | (cases h; done) | (injection h with h; omega)
  rw [if_neg h282] at e
  by_cases h271 : k = 271
  · rw [if_pos h271] at e
    refine need_inl e fun x h => ?_
    try simp only at h
    repeat' split at h
    all_goals first | (cases h; done) | (injection h with h; omega)
  rw [if_neg h271] at e
  by_cases h278 : k = 278
  · rw [if_pos h278] at e
    refine need_inl e fun x h => ?_
    try simp only at h
    repeat' split at h
    all_goals first | (cases h; done) | (injection h with h; omega)
  rw [if_neg h278] at e
  by_cases h274 : k = 274
  · rw [if_pos h274] at e
    refine need_inl e fun x h => ?_
    try simp only at h
    repeat' split at h
    all_goals first | (cases h; done) | (injection h with h; omega)
  rw [if_neg h274] at e
  by_cases h283 : k = 283
  · rw [if_pos h283] at e
    refine need_inl e fun x h => ?_
    try simp only at h
    repeat' split at h
    all_goals first | (cases h; done) | (injection h with h; omega)
  rw [if_neg h283] at e
  by_cases h284 : k = 284
  · rw [if_pos h284] at e
    refine need_inl e fun x h => ?_
    try simp only at h
    repeat' split at h
    all_goals first | (cases h; done) | (injection h with h; omega)
  rw [if_neg h284] at e
  by_cases h276 : k = 276
  · rw [if_pos h276] at e
    refine need_inl e fun x h => ?_
    try simp only at h
    repeat' split at h
    all_goals first | (cases h; done) | (injection h with h; omega)
  rw [if_neg h276] at e
  by_cases h277 : k = 277
  · rw [if_pos h277] at e
    refine need_inl e fun x h => ?_
    try simp only at h
    repeat' split at h
    all_goals first | (cases h; done) | (injection h with h; omega)
  rw [if_neg h277] at e
  by_cases h285 : k = 285
  · rw [if_pos h285] at e
    refine need_inl e fun x h => ?_
    try simp only at h
    repeat' split at h
    all_goals first | (cases h; done) | (injection h with h; omega)
  rw [if_neg h285] at e
  by_cases h286 : k = 286
  · rw [if_pos h286] at e
    refine need_inl e fun x h => ?_
    try simp only at h
    repeat' split at h
    all_goals first | (cases h; done) | (injection h with h; omega)
  rw [if_neg h286] at e
  cases e
theorem draw_bad {room : Nat} {z : Int} : ∀ (l : List Seg) (r : Run), draw room l r = .bad z → z < 0
  | [], r, e => by simp only [draw] at e; cases e
  | .line a :: l, r, e => by
    unfold draw at e
    split at e
    · cases e; decide
    · split at e
      · cases e; decide
      · exact draw_bad l _ e
  | .curve a b c :: l, r, e => by
    unfold draw at e
    split at e
    · cases e; decide
    · split at e
      · cases e; decide
      · split at e
        · cases e; decide
        · split at e
          · cases e; decide
          · exact draw_bad l _ e
theorem draw_no_over {room : Nat} {q : Run} : ∀ (l : List Seg) (r : Run), draw room l r ≠ .over q
  | [], r => by intro e; simp only [draw] at e; cases e
  | .line a :: l, r => by
    intro e
    unfold draw at e
    split at e
    · cases e
    · split at e
      · cases e
      · exact draw_no_over l _ e
  | .curve a b c :: l, r => by
    intro e
    unfold draw at e
    split at e
    · cases e
    · split at e
      · cases e
      · split at e
        · cases e
        · split at e
          · cases e
          · exact draw_no_over l _ e
theorem opened_bad {room : Nat} {r : Run} {s : Step} {z : Int} (e : opened room r s = .bad z) : z < 0 := by
  unfold opened at e
  split at e
  · cases e; decide
  · split at e
    · cases e; decide
    · cases e
theorem operate_bad {t : Subrs} {room k : Nat} {r : Run} {z : Int} (e : operate t room k r = .bad z) : z < 0 := by
  unfold operate at e
  split at e
  · split at e
    · cases e; decide
    · split at e
      · cases e; decide
      · cases e
  split at e
  · split at e
    · cases e; decide
    · split at e
      · cases e; decide
      · simp only at e
        split at e
        · cases e; decide
        · cases e
  split at e
  · split at e
    · cases e; decide
    · exact opened_bad e
  split at e
  · split at e
    · cases e; decide
    · exact opened_bad e
  split at e
  · split at e
    · cases e; decide
    · split at e
      · cases e
      · split at e
        · cases e; decide
        · cases e
  split at e
  · split at e
    · cases e; decide
    · simp only at e
      split at e
      · cases e; decide
      · split at e
        · cases e; decide
        · cases e
  split at e
  · split at e
    · cases e; decide
    · cases e
  split at e
  · cases e; decide
  · split at e
    · cases e; decide
    · exact draw_bad _ _ e
  · rename_i hr
    cases e
    exact reckon_inl hr
  · cases e
  · cases e; decide
theorem operate_over {t : Subrs} {room k : Nat} {r q : Run} (h : r.out.length ≤ room) (e : operate t room k r = .over q) : q.out.length ≤ room := by
  unfold operate at e
  split at e
  · split at e
    · cases e
    · split at e <;> cases e
  split at e
  · split at e
    · cases e
    · split at e
      · cases e
      · simp only at e
        split at e <;> cases e
  split at e
  · split at e
    · cases e
    · unfold opened at e
      split at e
      · cases e
      · split at e <;> cases e
  split at e
  · split at e
    · cases e
    · unfold opened at e
      split at e
      · cases e
      · split at e <;> cases e
  split at e
  · split at e
    · cases e
    · rename_i x hx
      have ho : x.2.out = r.out := by
        unfold without at hx
        simp only at hx
        split at hx
        · cases hx; rfl
        · split at hx
          · cases hx; rfl
          · cases hx
      split at e
      · cases e; rw [ho]; exact h
      · split at e
        · cases e
        · rename_i u hu
          cases e
          obtain ⟨h1, rfl⟩ := written_some hu
          show (x.2.out ++ [3]).length ≤ room
          rw [List.length_append]; exact h1
  split at e
  · split at e
    · cases e
    · simp only at e
      split at e
      · cases e
      · split at e <;> cases e
  split at e
  · split at e <;> cases e
  split at e
  · cases e
  · split at e
    · cases e
    · exact absurd e (draw_no_over _ _)
  · cases e
  · cases e
  · cases e
theorem step_over {t : Subrs} {room : Nat} {r q : Run} (h : r.out.length ≤ room) (e : step t room r = .over q) : q.out.length ≤ room := by
  unfold step at e
  split at e
  · cases e
  · split at e <;> cases e
  · split at e
    · cases e
    · exact operate_over (by exact h) e
theorem run_step2 {t : Subrs} {room n : Nat} {q : Run} {R : Option (Run ⊕ Int)} (hn : mu q < n + 1) (e : run t room (n + 1) q = R) :
    (∀ k, step t room q = .bad k → R = some (.inr k)) ∧ (∀ q', step t room q = .over q' → R = some (.inl q')) ∧
    (Okq room q → ∀ q', step t room q = .on q' → mu q' < n ∧ run t room n q' = R) := by
  unfold run at e
  refine ⟨fun k hk => ?_, fun q' hk => ?_, fun ho q' hk => ⟨?_, ?_⟩⟩
  · rw [hk] at e; exact e.symm
  · rw [hk] at e; exact e.symm
  · have := (step_ok ho hk).2; omega
  · rw [hk] at e; exact e
theorem step_bad {t : Subrs} {room : Nat} {r : Run} {z : Int} (e : step t room r = .bad z) : z < 0 := by
  unfold step at e
  split at e
  · cases e; decide
  · split at e
    · cases e; decide
    · cases e
  · split at e
    · cases e; decide
    · exact operate_bad e
theorem run_neg {t : Subrs} {room : Nat} {k : Int} : ∀ (n : Nat) (q : Run), run t room n q = some (.inr k) → k < 0
  | 0, q, e => by cases e
  | n + 1, q, e => by
    unfold run at e
    split at e
    · exact run_neg n _ e
    · cases e
    · rename_i k' hk
      cases e
      exact step_bad hk
theorem run_some {t : Subrs} {room : Nat} : ∀ (n : Nat) (q : Run), Okq room q → mu q < n → run t room n q ≠ none
  | 0, q, _, h => absurd h (Nat.not_lt_zero _)
  | n + 1, q, ok, h => by
    unfold run
    split
    · rename_i q' hq
      obtain ⟨h1, h2⟩ := step_ok ok hq
      exact run_some n q' h1 (by omega)
    · exact fun e => by cases e
    · exact fun e => by cases e
section
variable {t : Subrs} {room : Nat} {q : Run} {f : Frame} {fs : List Frame}
theorem rest_of (hf : q.frames = f :: fs) : rest q = f.code.drop f.pc := by unfold rest; rw [hf]
theorem behind_of (hf : q.frames = f :: fs) (n : Nat) : (behind q n).frames = { f with pc := f.pc + n } :: fs := by unfold behind; rw [hf]
theorem behind_two (hf : q.frames = f :: fs) (a b : Nat) : behind (behind q a) b = behind q (a + b) := by
  unfold behind; rw [hf]; simp only [Nat.add_assoc]
theorem step_end (hf : q.frames = f :: fs) (h : f.code.length ≤ f.pc) : step t room q = .bad (-7) := by
  unfold step
  rw [rest_of hf, List.drop_eq_nil_of_le h, item_nil]
theorem step_num (hf : q.frames = f :: fs) (h : f.pc < f.code.length) (hc : 32 ≤ bz f.code[f.pc] ∨ bz f.code[f.pc] = 28) :
    step t room q = if (f.code.drop (f.pc + 1)).length < (nBehind (bz f.code[f.pc])).toNat then .bad (-7) else if 48 ≤ q.stack.length then .bad (-2) else
      .on { behind q (1 + (nBehind (bz f.code[f.pc])).toNat) with stack := q.stack ++ [numOf (bz f.code[f.pc]) (((f.code.drop (f.pc + 1)).take (nBehind (bz f.code[f.pc])).toNat).map bz)] } := by
  unfold step
  rw [rest_of hf, List.drop_eq_getElem_cons h]
  obtain ⟨k1, k2⟩ := item_num (r := f.code.drop (f.pc + 1)) hc
  by_cases hl : (f.code.drop (f.pc + 1)).length < (nBehind (bz f.code[f.pc])).toNat
  · rw [k1 hl, if_pos hl]
  · rw [(k2 (by omega)).1, if_neg hl]
theorem step_op (hf : q.frames = f :: fs) (h : f.pc < f.code.length) (h1 : ¬ (32 ≤ bz f.code[f.pc] ∨ bz f.code[f.pc] = 28)) (h2 : ¬ bz f.code[f.pc] = 12) :
    step t room q = if 100000 ≤ q.count then .bad (-10) else operate t room f.code[f.pc].toNat { behind q 1 with count := q.count + 1 } := by
  unfold step
  rw [rest_of hf, List.drop_eq_getElem_cons h, item_op (by omega) (by omega) h2]
theorem step_12 (hf : q.frames = f :: fs) (h : f.pc < f.code.length) (h2 : bz f.code[f.pc] = 12) : (f.code.length ≤ f.pc + 1 → step t room q = .bad (-7)) ∧
    ∀ h' : f.pc + 1 < f.code.length, step t room q = if 100000 ≤ q.count then .bad (-10) else operate t room (256 + f.code[f.pc + 1].toNat) { behind q 2 with count := q.count + 1 } := by
  constructor
  · intro h'
    unfold step
    rw [rest_of hf, List.drop_eq_getElem_cons h, item_twelve h2, List.drop_eq_nil_of_le h']
  · intro h'
    unfold step
    rw [rest_of hf, List.drop_eq_getElem_cons h, item_twelve h2, List.drop_eq_getElem_cons h']
end
end Mn
set_option maxHeartbeats 4000000
namespace Mn
open PySem PySem.Spec PyProof.Rows L2
abbrev St := L2.St
def top (i : Nat) : Stmt := PySem.Challenge.pw_outlineruns_s01_answers.main.body.getD i (.Pass ⟨0, 0, 0, 0⟩)
section
variable (P : Program) (w : World) (K : PySem.W.Frag) (mg : Str → Option Value) (base : Heap)
def FV (f : Addr) (k : Nat) (ps : List Str) (sp : Sp) : Prop := ∃ fd, PySem.W.keepIn K (.ref f) = true ∧ Binds K fd ps [] ∧ FnOk P w K mg base CX0 k f fd ps sp
def Def (x : Str) (k : Nat) (ps : List Str) (sp : Sp) : Prop := ∃ f, mg x = some (.ref f) ∧ FV P w K mg base f k ps sp
def Raw (x : Str) (st : Stmt) : Prop := ∃ f fd, mg x = some (.ref f) ∧ Fun K x x st f fd
def Cst (x : Str) (i : Int) : Prop := ∃ t, mg x = some (.int i t)
def MkD (x : Str) (k : Nat) (ps : List Str) (C : Addr) (sp : Sp) : Prop := ∃ f fd, mg x = some (.ref C) ∧ Mk K C f ∧ Binds K fd ps [] ∧ FnOk P w K mg base CX0 k f fd ps sp
def MDict (x : Str) (kvs : List (Key × V)) : Prop := ∃ a, mg x = some (.ref a) ∧ (a == sysModules) = false ∧ ∃ vs, KV kvs vs ∧ ∀ h : Heap, K.In h → h.DictOf (mixKind P w) a vs
end
section
variable {P : Program} {w : World} {K : PySem.W.Frag} {mg : Str → Option Value} {base : Heap}
theorem FV.mono {f : Addr} {j k : Nat} {ps : List Str} {sp : Sp} (F : FV P w K mg base f j ps sp) (h : j ≤ k) : FV P w K mg base f k ps sp := by
  obtain ⟨fd, a, b, c⟩ := F
  exact ⟨fd, a, b, c.mono h⟩
theorem FV.imp {f : Addr} {k : Nat} {ps : List Str} {sp sp' : Sp} (F : FV P w K mg base f k ps sp) (h : ∀ vs H Q E, sp' vs H Q E → sp vs H Q E) : FV P w K mg base f k ps sp' := by
  obtain ⟨fd, a, b, c⟩ := F
  exact ⟨fd, a, b, c.imp h⟩
theorem Def.mono {x : Str} {j k : Nat} {ps : List Str} {sp : Sp} (F : Def P w K mg base x j ps sp) (h : j ≤ k) : Def P w K mg base x k ps sp := by
  obtain ⟨f, e, F⟩ := F
  exact ⟨f, e, F.mono h⟩
theorem Def.imp {x : Str} {k : Nat} {ps : List Str} {sp sp' : Sp} (F : Def P w K mg base x k ps sp) (h : ∀ vs H Q E, sp' vs H Q E → sp vs H Q E) : Def P w K mg base x k ps sp' := by
  obtain ⟨f, e, F⟩ := F
  exact ⟨f, e, F.imp h⟩
theorem Raw.mk {x : Str} {st : Stmt} {N ps : List Str} {k : Nat} {sp : Sp} (R : Raw K mg x st) (S : FnScope N ps (defScope st))
    (hb : ∀ (kV doc pm : Value) (an : Option Addr) (cdv ct : Value) (us : List Value), us.length = ps.length → bindArgs (PySem.W.fnOf x x (defArgs st) (defBody st) (defScope st) .none kV doc pm an cdv ct) ⟨us, []⟩ = pure (ps.zip us))
    (len : ∀ vs H Q E, sp vs H Q E → vs.length = ps.length)
    (hbody : ∀ (f : Addr) (cdv : Value) (A : Around) (outer : List Env) (s : Shared) (H : Hp) (vs : List V) (Q : VK) (E : XK), Room k (A.deeper (envOfC x (defScope st) s.heap.objs.size f cdv)) → sp vs H Q E →
      ∃ t, PSs (cxOf CX0 P w K mg base N x (defScope st) f cdv A outer s H E).nox (defBody st) t ∧ t (Ends.mk (fun _ H' => Q .non H') Q (fun _ _ => False) (fun _ _ => False)) (start N vs) H) : Def P w K mg base x (k + 1) ps sp := by
  obtain ⟨f, fd, e, F⟩ := R
  exact ⟨f, e, fd, F.kp, F.binds hb, F.ok S len fun cdv A outer s H vs Q E hr hsp => hbody f cdv A outer s H vs Q E hr hsp⟩
end
section
variable {X : Cx} {k : Nat} {ps : List Str} {sp : Sp} {x : Str} {p pos apos cpos : Pos} {e : Expr} {es : List Expr} {t : TA} {te : TE}
theorem pe_cst {i : Int} (h : Cst X.mg x i) (hg : Gl X x := by rfl) (hd : (x == ("__debug__" : Str)) = false := by decide) : PE X (.Name x pos) (tC (.int i)) := by
  obtain ⟨t, q⟩ := h
  exact pe_glob hg q ⟨t, rfl⟩ hd
def tFn (mg : Str → Option Value) (x : Str) : TE := fun _ H Q => ∀ f, mg x = some (.ref f) → Q (.ref f) H
theorem pe_fnv {st : Stmt} (h : Raw X.K X.mg x st) (hg : Gl X x := by rfl) (hd : (x == ("__debug__" : Str)) = false := by decide) : PE X (.Name x pos) (tFn X.mg x) := by
  obtain ⟨f, fd, q, _⟩ := h
  intro pins s σ H Q I hw
  exact pe_glob (v := .ref f) hg q rfl hd pins s σ H Q I (hw f q)
def tCD (sp : Sp) (t : TA) : TE := fun σ H Q => t σ H fun vs H1 => sp vs H1 Q E0
theorem pe_callD (F : Def X.prog X.w X.K X.mg X.base x k ps sp) (hr : Room k X.A) (hg : Gl X x) (ha : PA X (e :: es) t)
    (hdb : (x == ("__debug__" : Str)) = false := by decide) (he : starEach (e :: es) X.env = (false, eval e X.env) :: starEach es X.env := by rfl) (hpl : (backTo pos (starEach es X.env)).any (·.1) = false := by rfl) :
    PE X (.Call (.Name x p) (e :: es) [] pos) (tCD sp t) := by
  obtain ⟨f, hm, fd, kp, b, F⟩ := F
  intro pins s σ H Q I h
  refine pe_call F hr hg hm kp b .nil pass0 ha hdb he hpl pins s σ H Q I ?_
  show t σ H fun vs H1 => sp (vs ++ []) H1 Q E0
  have e0 : (fun (vs : List V) (H1 : Hp) => sp (vs ++ []) H1 Q E0) = fun vs H1 => sp vs H1 Q E0 := by
    funext vs H1
    rw [List.append_nil]
  rw [e0]
  exact h
def tCV (i : Nat) (f : Addr) (sp : Sp) (t : TA) : TE := fun σ H Q => σ[i]? = some (some (.ref f)) ∧ t σ H fun vs H1 => sp vs H1 Q E0
theorem pe_callV (i : Nat) {f : Addr} (F : FV X.prog X.w X.K X.mg X.base f k ps sp) (hr : Room k X.A) (ha : PA X (e :: es) t) (hN : X.N[i]? = some x := by rfl)
    (hv : Vis X.env.scope x := by first | exact Or.inl rfl | exact Or.inr (Or.inl rfl) | exact Or.inr (Or.inr rfl)) (hd : (x == ("__debug__" : Str)) = false := by decide) (hcd : (x == ("__classdict__" : Str)) = false := by decide)
    (he : starEach (e :: es) X.env = (false, eval e X.env) :: starEach es X.env := by rfl) (hpl : (backTo pos (starEach es X.env)).any (·.1) = false := by rfl) :
    PE X (.Call (.Name x p) (e :: es) [] pos) (tCV i f sp t) := by
  obtain ⟨fd, kp, b, F⟩ := F
  intro pins s σ H Q I h
  obtain ⟨h0, h⟩ := h
  refine wpAny_Call_Name_kw (thn (pe_var hN hv hd hcd pins s σ H (fun v H1 => v = .ref f ∧ H1 = H) I ⟨.ref f, h0, rfl, rfl⟩) fun u s1 ⟨v, H1, I1, r1, e1, e2⟩ => ?_)
  subst e1 e2
  obtain rfl : u = Value.ref f := r1
  refine PySem.W.callWith_K (h₀ := X.base) I.ok.mod.kin kp (thn (ha pos pins s1 σ H1 _ I1 h) fun us s2 ⟨vs, H2, I2, r, q⟩ => ⟨I2.kIn, ?_⟩) he hpl
  exact run_fn (dvs := []) (ds := []) F hr b .nil pass0 I2 r (by rw [List.append_nil]; exact q)
def tMkD (C : Addr) (sp : Sp) (t : TA) : TE := fun σ H Q => t σ H fun vs H1 => ∀ x dx, H1 x = none → H1 dx = none → dx ≠ x → sp (.ref x :: vs) (upd (upd H1 dx (.own x)) x (.ins C dx [])) (fun v H2 => v = .non ∧ Q (.ref x) H2) E0
theorem pe_mkD {C : Addr} (F : MkD X.prog X.w X.K X.mg X.base x k ps C sp) (hr : Room (k + 1) X.A) (hg : Gl X x) (ha : PA X (e :: es) t)
    (hdb : (x == ("__debug__" : Str)) = false := by decide) (he : starEach (e :: es) X.env = (false, eval e X.env) :: starEach es X.env := by rfl) (hpl : (backTo pos (starEach es X.env)).any (·.1) = false := by rfl) :
    PE X (.Call (.Name x p) (e :: es) [] pos) (tMkD C sp t) := by
  obtain ⟨f, fd, hm, M, b, F⟩ := F
  intro pins s σ H Q I h
  refine pe_make M F hr hg hm b .nil pass0 ha hdb he hpl pins s σ H Q I ?_
  unfold tMake
  simp only [List.append_nil]
  exact h
theorem pe_mkD0 {C : Addr} (F : MkD X.prog X.w X.K X.mg X.base x k ps C sp) (hr : Room (k + 1) X.A) (hg : Gl X x) (hdb : (x == ("__debug__" : Str)) = false := by decide) :
    PE X (.Call (.Name x p) [] [] pos) (tMkD C sp tNil) := by
  obtain ⟨f, fd, hm, M, b, F⟩ := F
  intro pins s σ H Q I h
  refine pe_make0 M F hr hg hm b .nil pass0 hdb pins s σ H Q I ?_
  unfold tMake
  simp only [List.append_nil]
  exact h
def tMd (kvs : List (Key × V)) (te : TE) : TE := fun σ H Q => te σ H fun y H1 => ∃ i, y = .int i ∧ Q ((valV kvs (.inl i)).getD .non) H1
def tMdIn (kvs : List (Key × V)) (te : TE) : TE := fun σ H Q => te σ H fun y H1 => ∃ i, y = .int i ∧ Q (.bl (valV kvs (.inl i)).isSome) H1
def tMdIx (kvs : List (Key × V)) (te : TE) : TE := fun σ H Q => te σ H fun y H1 => ∃ i v, y = .int i ∧ valV kvs (.inl i) = some v ∧ Q v H1
theorem pe_mdget {kvs : List (Key × V)} (M : MDict X.prog X.w X.K X.mg x kvs) (he : PE X e te) (m : M1 X (.Name x p) "get" apos e cpos) (hg : Gl X x := by rfl) (hd : (x == ("__debug__" : Str)) = false := by decide) :
    PE X (.Call (.Attribute (.Name x p) "get" apos) [e] [] cpos) (tMd kvs te) := by
  obtain ⟨a, hm, hs, vs, rel, dd⟩ := M
  intro pins s σ H Q I h
  refine wpAny_Call_method m.base m.few m.line PySem.F.plainAttrs_dict PySem.F.slot_dict_get PySem.F.type_dict_get (ld_glob I hg hm ?_ hd)
  have d0 := dd _ I.kIn
  refine ⟨d0.typeIs, fun b q => ?_, ?_⟩
  · cases q
    obtain ⟨ob, _, _, h1, h2, _⟩ := d0
    exact ⟨ob, h1, h2.2.1⟩
  · rw [m.trees]
    refine Calls.callWith_builtin rfl (Calls.evalArgs_plain (Calls.spliced_cons (thn (he pins s σ H _ I h) fun iv s2 ⟨y, H2, I2, ry, i, ey, q2⟩ => Calls.spliced_nil ?_)))
    subst ey
    have d2 := dd _ I2.kIn
    refine call_meetsIn PySem.F.slot_dict_get d2.typeIs PySem.F.entry_dict_get (PySem.F.args_dict_get_2 _ _) (meets_dict_get (mixKind X.prog X.w) a (kV_is (k := .inl i) ry) hs) ⟨_, d2.mapOf, _, H2, I2.tok _, ?_, q2⟩
    exact (rel.val (.inl i)).getD rfl
theorem pc_mdin {kvs : List (Key × V)} (M : MDict X.prog X.w X.K X.mg x kvs) (he : PE X e te) (hg : Gl X x := by rfl) (hd : (x == ("__debug__" : Str)) = false := by decide) : PC X .In e (.Name x p) (tMdIn kvs te) := by
  obtain ⟨a, hm, hs, vs, rel, dd⟩ := M
  intro pins s σ H Q I h
  refine thn (he pins s σ H _ I h) fun iv s1 ⟨y, H1, I1, ry, i, ey, q1⟩ => ld_glob I1 hg hm ?_ hd
  subst ey
  refine wpAny_in_of (kV_is (k := .inl i) ry) hs (dd _ I1.kIn).mapOf ⟨.bl _, H1, I1.tok _, ?_, q1⟩
  rw [(rel.val (.inl i)).isSome_eq]
  rfl
theorem pe_mdix {kvs : List (Key × V)} (M : MDict X.prog X.w X.K X.mg x kvs) (he : PE X e te) (hs' : NoSl e) (hg : Gl X x := by rfl) (hd : (x == ("__debug__" : Str)) = false := by decide) :
    PE X (.Subscript (.Name x p) e pos) (tMdIx kvs te) := by
  obtain ⟨a, hm, hs, vs, rel, dd⟩ := M
  intro pins s σ H Q I h
  refine subD_of PySem.F.slot_dict_getitem.lookup hs' (ld_glob I hg hm (thn (he pins s σ H _ I h) fun iv s2 ⟨y, H2, I2, ry, i, v, ey, l, q2⟩ => ?_) hd)
  subst ey
  have d2 := dd _ I2.kIn
  obtain ⟨w', hw, rw'⟩ := RelO.some_of (v := v) (o := valueAt vs (.inl i)) (by rw [← l]; exact rel.val (.inl i))
  exact ⟨d2.typeIs, wpAny_getItem_of (kV_is (k := .inl i) ry) d2.mapOf hw ⟨v, H2, I2.tok _, rw', q2⟩⟩
def CDivB (_i j : Int) : Prop := 0 < j ∧ j < 2 ^ 64
theorem op_fdivB : OpR X (binaryOp .FloorDiv) (rI CDivB fun i j => .int (i / j)) := opI fun i j _ _ _ _ _ hc q => by
  have h1 : (0 : Int) < j := hc.1
  have h2 : j < 2 ^ 64 := hc.2
  refine floordiv_int (by omega) ?_ (.inl (PyProof.noPylong_of_log2 ?_))
  · rw [Int.fdiv_eq_ediv_of_nonneg i (by omega)]
    exact q
  · have h3 : j.natAbs < 2 ^ 64 := by omega
    have h4 : j.natAbs ≠ 0 := by omega
    have := (Nat.log2_lt h4).mpr h3
    omega
def ipD : TIp := fun x y H Q => ∃ i j, x = .int i ∧ y = .int j ∧ CDivB i j ∧ Q (.int (i / j)) H
theorem ip_fdiv : PIp X .FloorDiv ipD := by
  intro pins s σ H x y v u Q I r1 r2 h
  obtain ⟨i, j, e1, e2, ⟨h1, h2⟩, q⟩ := h
  subst e1; subst e2
  obtain ⟨t, rfl⟩ := r1
  obtain ⟨t', rfl⟩ := r2
  refine ifloordiv_int (by omega) ?_ (.inl (PyProof.noPylong_of_log2 ?_))
  · rw [Int.fdiv_eq_ediv_of_nonneg i (by omega)]
    exact ⟨.int _, H, I.tok _, ⟨_, rfl⟩, q⟩
  · have h3 : j.natAbs < 2 ^ 64 := by omega
    have h4 : j.natAbs ≠ 0 := by omega
    have := (Nat.log2_lt h4).mpr h3
    omega
def rInsert : V → List V → Hp → VK → Prop := fun x vs H Q => ∃ l xs i y, x = .ref l ∧ vs = [.int i, y] ∧ H l = some (.lst xs) ∧ 0 ≤ i ∧ i ≤ xs.length ∧ xs.length < sizeLine ∧ Q .non (upd H l (.lst (xs.take i.toNat ++ y :: xs.drop i.toNat)))
theorem mt_insert : MtM X "list.insert" rInsert := by
  intro pins s σ H x vs v us Q I rx rv h
  obtain ⟨l, xs, i, y, rfl, rfl, hH, h0, h1, hz, q⟩ := h
  cases rx
  obtain ⟨u1, u2, rfl, ⟨t, rfl⟩, ru⟩ := rv.two
  obtain ⟨z, its, n, r, hl, e⟩ := I.lstM hH
  have hs : (sizeLine : Nat) = 16777216 := sizeLine_eq
  refine call_meets F.slot_list_insert ⟨_, e, rfl⟩ F.entry_list_insert (F.args_list_insert_3 _ _ _)
    (AutoSeq1.list_insert_list_int_val_1 l its.toArray n i t u2 (by rw [fitsIndex_both (by omega) (by omega)]; exact Bool.false_ne_true) (by rw [List.size_toArray]; omega)) ⟨e, ?_⟩
  refine ⟨.non, _, I.lset (its' := its.take i.toNat ++ u2 :: its.drop i.toNat) hH e ?_ ((r.take i.toNat).append (.cons ru (r.drop i.toNat))) ?_, rfl, q⟩
  · have hk : (if i < 0 then (i + (its.toArray.size : Int)).toNat else min i.toNat its.toArray.size) = i.toNat := by
      rw [if_neg (by omega), List.size_toArray]; omega
    show (its.toArray.extract 0 (if i < 0 then (i + (its.toArray.size : Int)).toNat else min i.toNat its.toArray.size)).push u2 ++ its.toArray.extract (if i < 0 then (i + (its.toArray.size : Int)).toNat else min i.toNat its.toArray.size) = _
    rw [hk]
    apply Array.ext'
    simp
    exact List.take_of_length_le (by rw [List.length_drop]; exact Nat.le_refl _)
  · rw [List.length_append, List.length_cons, List.length_take, List.length_drop]
    omega
theorem bt_len : bootBuiltins "len" = some (.builtin "len") := by decide +kernel
theorem bt_abs : bootBuiltins "abs" = some (.builtin "abs") := by decide +kernel
theorem bt_max : bootBuiltins "max" = some (.builtin "max") := by decide +kernel
theorem bt_sum : bootBuiltins "sum" = some (.builtin "sum") := by decide +kernel
theorem bt_list : bootBuiltins "list" = some (.type "list") := by decide +kernel
def rLen (K : PySem.W.Frag) : List V → Hp → VK → Prop := fun xs H Q => ∃ p ys, xs = [.ref p] ∧ (SqL K H p ys ∨ SqT K H p ys) ∧ Q (.int ys.length) H
theorem call_lenR : CallR X (.builtin "len") (rLen X.K) := call_len_seq
def rAbs : List V → Hp → VK → Prop := fun xs H Q => ∃ i, xs = [.int i] ∧ Q (.int (if i < 0 then -i else i)) H
theorem call_absR : CallR X (.builtin "abs") rAbs := call_abs
def rMax2 : List V → Hp → VK → Prop := fun xs H Q => ∃ i j, xs = [.int i, .int j] ∧ Q (.int (if j > i then j else i)) H
theorem call_maxR (hc : X.calm = true) : CallR X (.builtin "max") rMax2 := call_max2 hc
def rListOf (K : PySem.W.Frag) : List V → Hp → VK → Prop := fun xs H Q => ∃ p ys, xs = [.ref p] ∧ (SqL K H p ys ∨ SqT K H p ys) ∧ ∀ l, H l = none → Q (.ref l) (upd H l (.lst ys))
theorem call_listR : CallR X (.type "list") (rListOf X.K) := call_list_of
theorem Def.fv {P : Program} {w : World} {K : PySem.W.Frag} {mg : Str → Option Value} {base : Heap} {x : Str} {k : Nat} {ps : List Str} {sp : Sp} {f : Addr} (D : Def P w K mg base x k ps sp) (h : mg x = some (.ref f)) : FV P w K mg base f k ps sp := by
  obtain ⟨g, e, F⟩ := D
  rw [h] at e
  cases e
  exact F
end
end Mn
namespace Mn
open PySem PySem.Spec PyProof.Rows L2
abbrev s_within_bits : Stmt := top 6
theorem sc_within_bits : FnScope ["number"] ["number"] (defScope s_within_bits) := ⟨rfl, rfl, rfl, by decide +kernel, rfl, by decide +kernel, by decide +kernel⟩
abbrev s_whole_part : Stmt := top 7
theorem sc_whole_part : FnScope ["number"] ["number"] (defScope s_whole_part) := ⟨rfl, rfl, rfl, by decide +kernel, rfl, by decide +kernel, by decide +kernel⟩
abbrev s_begins_number : Stmt := top 8
theorem sc_begins_number : FnScope ["first"] ["first"] (defScope s_begins_number) := ⟨rfl, rfl, rfl, by decide +kernel, rfl, by decide +kernel, by decide +kernel⟩
abbrev s_bytes_behind : Stmt := top 9
theorem sc_bytes_behind : FnScope ["first"] ["first"] (defScope s_bytes_behind) := ⟨rfl, rfl, rfl, by decide +kernel, rfl, by decide +kernel, by decide +kernel⟩
abbrev s_number_of : Stmt := top 10
theorem sc_number_of : FnScope ["first", "behind"] ["first", "behind"] (defScope s_number_of) := ⟨rfl, rfl, rfl, by decide +kernel, rfl, by decide +kernel, by decide +kernel⟩
abbrev s_signed : Stmt := top 11
theorem sc_signed : FnScope ["digits", "number", "digit"] ["digits"] (defScope s_signed) := ⟨rfl, rfl, rfl, by decide +kernel, rfl, by decide +kernel, by decide +kernel⟩
abbrev s_Run___init__ : Stmt := inClass (top 29) 0
theorem sc_Run___init__ : FnScope ["self", "code", "most", "own", "common"] ["self", "code", "most", "own", "common"] (defScope s_Run___init__) := ⟨rfl, rfl, rfl, by decide +kernel, rfl, by decide +kernel, by decide +kernel⟩
abbrev s_push : Stmt := top 30
theorem sc_push : FnScope ["run", "number"] ["run", "number"] (defScope s_push) := ⟨rfl, rfl, rfl, by decide +kernel, rfl, by decide +kernel, by decide +kernel⟩
abbrev s_take_all : Stmt := top 31
theorem sc_take_all : FnScope ["run", "numbers"] ["run"] (defScope s_take_all) := ⟨rfl, rfl, rfl, by decide +kernel, rfl, by decide +kernel, by decide +kernel⟩
abbrev s_take_with_width : Stmt := top 32
theorem sc_take_with_width : FnScope ["run", "fits", "numbers", "width_due"] ["run", "fits"] (defScope s_take_with_width) := ⟨rfl, rfl, rfl, by decide +kernel, rfl, by decide +kernel, by decide +kernel⟩
abbrev s_put : Stmt := top 38
theorem sc_put : FnScope ["run", "numbers"] ["run", "numbers"] (defScope s_put) := ⟨rfl, rfl, rfl, by decide +kernel, rfl, by decide +kernel, by decide +kernel⟩
abbrev s_draw_piece : Stmt := top 39
theorem sc_draw_piece : FnScope ["run", "head", "steps", "numbers", "x", "y", "dx", "dy"] ["run", "head", "steps"] (defScope s_draw_piece) := ⟨rfl, rfl, rfl, by decide +kernel, rfl, by decide +kernel, by decide +kernel⟩
abbrev s_draw : Stmt := top 40
theorem sc_draw : FnScope ["run", "pieces_of", "pieces", "steps", "refusal"] ["run", "pieces_of"] (defScope s_draw) := ⟨rfl, rfl, rfl, by decide +kernel, rfl, by decide +kernel, by decide +kernel⟩
abbrev s_is_none : Stmt := top 41
theorem sc_is_none : FnScope ["count"] ["count"] (defScope s_is_none) := ⟨rfl, rfl, rfl, by decide +kernel, rfl, by decide +kernel, by decide +kernel⟩
abbrev s_is_one : Stmt := top 42
theorem sc_is_one : FnScope ["count"] ["count"] (defScope s_is_one) := ⟨rfl, rfl, rfl, by decide +kernel, rfl, by decide +kernel, by decide +kernel⟩
abbrev s_is_two : Stmt := top 43
theorem sc_is_two : FnScope ["count"] ["count"] (defScope s_is_two) := ⟨rfl, rfl, rfl, by decide +kernel, rfl, by decide +kernel, by decide +kernel⟩
abbrev s_begin_path : Stmt := top 44
theorem sc_begin_path : FnScope ["run", "dx", "dy", "head"] ["run", "dx", "dy"] (defScope s_begin_path) := ⟨rfl, rfl, rfl, by decide +kernel, rfl, by decide +kernel, by decide +kernel⟩
abbrev s_move : Stmt := top 45
theorem sc_move : FnScope ["run", "numbers"] ["run"] (defScope s_move) := ⟨rfl, rfl, rfl, by decide +kernel, rfl, by decide +kernel, by decide +kernel⟩
abbrev s_move_along_x : Stmt := top 46
theorem sc_move_along_x : FnScope ["run", "numbers"] ["run"] (defScope s_move_along_x) := ⟨rfl, rfl, rfl, by decide +kernel, rfl, by decide +kernel, by decide +kernel⟩
abbrev s_move_along_y : Stmt := top 47
theorem sc_move_along_y : FnScope ["run", "numbers"] ["run"] (defScope s_move_along_y) := ⟨rfl, rfl, rfl, by decide +kernel, rfl, by decide +kernel, by decide +kernel⟩
abbrev s_end : Stmt := top 48
theorem sc_end : FnScope ["run"] ["run"] (defScope s_end) := ⟨rfl, rfl, rfl, by decide +kernel, rfl, by decide +kernel, by decide +kernel⟩
abbrev s_some_pairs : Stmt := top 52
theorem sc_some_pairs : FnScope ["count"] ["count"] (defScope s_some_pairs) := ⟨rfl, rfl, rfl, by decide +kernel, rfl, by decide +kernel, by decide +kernel⟩
abbrev s_pairs_or_none : Stmt := top 53
theorem sc_pairs_or_none : FnScope ["count"] ["count"] (defScope s_pairs_or_none) := ⟨rfl, rfl, rfl, by decide +kernel, rfl, by decide +kernel, by decide +kernel⟩
abbrev s_add_hints : Stmt := top 54
theorem sc_add_hints : FnScope ["run", "fits", "numbers"] ["run", "fits"] (defScope s_add_hints) := ⟨rfl, rfl, rfl, by decide +kernel, rfl, by decide +kernel, by decide +kernel⟩
abbrev s_stems : Stmt := top 55
theorem sc_stems : FnScope ["run"] ["run"] (defScope s_stems) := ⟨rfl, rfl, rfl, by decide +kernel, rfl, by decide +kernel, by decide +kernel⟩
abbrev s_mask : Stmt := top 56
theorem sc_mask : FnScope ["run", "refusal", "behind"] ["run"] (defScope s_mask) := ⟨rfl, rfl, rfl, by decide +kernel, rfl, by decide +kernel, by decide +kernel⟩
abbrev s_drop : Stmt := top 59
theorem sc_drop : FnScope ["run"] ["run"] (defScope s_drop) := ⟨rfl, rfl, rfl, by decide +kernel, rfl, by decide +kernel, by decide +kernel⟩
abbrev s_double : Stmt := top 60
theorem sc_double : FnScope ["run"] ["run"] (defScope s_double) := ⟨rfl, rfl, rfl, by decide +kernel, rfl, by decide +kernel, by decide +kernel⟩
abbrev s_swap : Stmt := top 61
theorem sc_swap : FnScope ["run", "top"] ["run"] (defScope s_swap) := ⟨rfl, rfl, rfl, by decide +kernel, rfl, by decide +kernel, by decide +kernel⟩
abbrev s_is_cell : Stmt := top 62
theorem sc_is_cell : FnScope ["cell"] ["cell"] (defScope s_is_cell) := ⟨rfl, rfl, rfl, by decide +kernel, rfl, by decide +kernel, by decide +kernel⟩
abbrev s_put_in_cell : Stmt := top 63
theorem sc_put_in_cell : FnScope ["run", "cell", "number"] ["run"] (defScope s_put_in_cell) := ⟨rfl, rfl, rfl, by decide +kernel, rfl, by decide +kernel, by decide +kernel⟩
abbrev s_take_from_cell : Stmt := top 64
theorem sc_take_from_cell : FnScope ["run", "cell"] ["run"] (defScope s_take_from_cell) := ⟨rfl, rfl, rfl, by decide +kernel, rfl, by decide +kernel, by decide +kernel⟩
abbrev s_once_more : Stmt := top 65
theorem sc_once_more : FnScope ["run", "below"] ["run"] (defScope s_once_more) := ⟨rfl, rfl, rfl, by decide +kernel, rfl, by decide +kernel, by decide +kernel⟩
abbrev s_turn : Stmt := top 66
theorem sc_turn : FnScope ["run", "by", "count", "rest", "cut"] ["run"] (defScope s_turn) := ⟨rfl, rfl, rfl, by decide +kernel, rfl, by decide +kernel, by decide +kernel⟩
abbrev s_steps_of : Stmt := top 69
theorem sc_steps_of : FnScope ["numbers", "i"] ["numbers"] (defScope s_steps_of) := ⟨rfl, rfl, rfl, by decide +kernel, rfl, by decide +kernel, by decide +kernel⟩
abbrev s_lines_of : Stmt := top 70
theorem sc_lines_of : FnScope ["numbers", "step"] ["numbers"] (defScope s_lines_of) := ⟨rfl, rfl, rfl, by decide +kernel, rfl, by decide +kernel, by decide +kernel⟩
abbrev s_curves_of : Stmt := top 71
theorem sc_curves_of : FnScope ["numbers", "steps", "i"] ["numbers"] (defScope s_curves_of) := ⟨rfl, rfl, rfl, by decide +kernel, rfl, by decide +kernel, by decide +kernel⟩
abbrev s_fours_of : Stmt := top 72
theorem sc_fours_of : FnScope ["numbers", "i"] ["numbers"] (defScope s_fours_of) := ⟨rfl, rfl, rfl, by decide +kernel, rfl, by decide +kernel, by decide +kernel⟩
abbrev s_is_fours_or_one_more : Stmt := top 73
theorem sc_is_fours_or_one_more : FnScope ["count"] ["count"] (defScope s_is_fours_or_one_more) := ⟨rfl, rfl, rfl, by decide +kernel, rfl, by decide +kernel, by decide +kernel⟩
abbrev s_lines : Stmt := top 74
theorem sc_lines : FnScope ["numbers"] ["numbers"] (defScope s_lines) := ⟨rfl, rfl, rfl, by decide +kernel, rfl, by decide +kernel, by decide +kernel⟩
abbrev s_lines_in_turn : Stmt := top 75
theorem sc_lines_in_turn : FnScope ["numbers", "along_x", "pieces", "d"] ["numbers", "along_x"] (defScope s_lines_in_turn) := ⟨rfl, rfl, rfl, by decide +kernel, rfl, by decide +kernel, by decide +kernel⟩
abbrev s_lines_from_x : Stmt := top 76
theorem sc_lines_from_x : FnScope ["numbers"] ["numbers"] (defScope s_lines_from_x) := ⟨rfl, rfl, rfl, by decide +kernel, rfl, by decide +kernel, by decide +kernel⟩
abbrev s_lines_from_y : Stmt := top 77
theorem sc_lines_from_y : FnScope ["numbers"] ["numbers"] (defScope s_lines_from_y) := ⟨rfl, rfl, rfl, by decide +kernel, rfl, by decide +kernel, by decide +kernel⟩
abbrev s_curves : Stmt := top 78
theorem sc_curves : FnScope ["numbers"] ["numbers"] (defScope s_curves) := ⟨rfl, rfl, rfl, by decide +kernel, rfl, by decide +kernel, by decide +kernel⟩
abbrev s_curves_then_line : Stmt := top 79
theorem sc_curves_then_line : FnScope ["numbers"] ["numbers"] (defScope s_curves_then_line) := ⟨rfl, rfl, rfl, by decide +kernel, rfl, by decide +kernel, by decide +kernel⟩
abbrev s_lines_then_curve : Stmt := top 80
theorem sc_lines_then_curve : FnScope ["numbers"] ["numbers"] (defScope s_lines_then_curve) := ⟨rfl, rfl, rfl, by decide +kernel, rfl, by decide +kernel, by decide +kernel⟩
abbrev s_level_curves : Stmt := top 81
theorem sc_level_curves : FnScope ["numbers", "more", "y", "pieces", "four"] ["numbers"] (defScope s_level_curves) := ⟨rfl, rfl, rfl, by decide +kernel, rfl, by decide +kernel, by decide +kernel⟩
abbrev s_standing_curves : Stmt := top 82
theorem sc_standing_curves : FnScope ["numbers", "more", "x", "pieces", "four"] ["numbers"] (defScope s_standing_curves) := ⟨rfl, rfl, rfl, by decide +kernel, rfl, by decide +kernel, by decide +kernel⟩
abbrev s_flat_curve : Stmt := top 83
theorem sc_flat_curve : FnScope ["four", "e"] ["four", "e"] (defScope s_flat_curve) := ⟨rfl, rfl, rfl, by decide +kernel, rfl, by decide +kernel, by decide +kernel⟩
abbrev s_upright_curve : Stmt := top 84
theorem sc_upright_curve : FnScope ["four", "e"] ["four", "e"] (defScope s_upright_curve) := ⟨rfl, rfl, rfl, by decide +kernel, rfl, by decide +kernel, by decide +kernel⟩
abbrev s_curves_in_turn : Stmt := top 85
theorem sc_curves_in_turn : FnScope ["numbers", "flat", "count", "pieces", "fours", "i", "four", "e"] ["numbers", "flat"] (defScope s_curves_in_turn) := ⟨rfl, rfl, rfl, by decide +kernel, rfl, by decide +kernel, by decide +kernel⟩
abbrev s_curves_from_flat : Stmt := top 86
theorem sc_curves_from_flat : FnScope ["numbers"] ["numbers"] (defScope s_curves_from_flat) := ⟨rfl, rfl, rfl, by decide +kernel, rfl, by decide +kernel, by decide +kernel⟩
abbrev s_curves_from_upright : Stmt := top 87
theorem sc_curves_from_upright : FnScope ["numbers"] ["numbers"] (defScope s_curves_from_upright) := ⟨rfl, rfl, rfl, by decide +kernel, rfl, by decide +kernel, by decide +kernel⟩
abbrev s_two_curves_of_seven : Stmt := top 88
theorem sc_two_curves_of_seven : FnScope ["numbers", "c", "first", "second"] ["numbers"] (defScope s_two_curves_of_seven) := ⟨rfl, rfl, rfl, by decide +kernel, rfl, by decide +kernel, by decide +kernel⟩
abbrev s_two_curves_of_thirteen : Stmt := top 89
theorem sc_two_curves_of_thirteen : FnScope ["numbers"] ["numbers"] (defScope s_two_curves_of_thirteen) := ⟨rfl, rfl, rfl, by decide +kernel, rfl, by decide +kernel, by decide +kernel⟩
abbrev s_two_curves_of_nine : Stmt := top 90
theorem sc_two_curves_of_nine : FnScope ["numbers", "back", "first", "second"] ["numbers"] (defScope s_two_curves_of_nine) := ⟨rfl, rfl, rfl, by decide +kernel, rfl, by decide +kernel, by decide +kernel⟩
abbrev s_two_curves_of_eleven : Stmt := top 91
theorem sc_two_curves_of_eleven : FnScope ["numbers", "steps", "across", "along", "z", "step"] ["numbers"] (defScope s_two_curves_of_eleven) := ⟨rfl, rfl, rfl, by decide +kernel, rfl, by decide +kernel, by decide +kernel⟩
abbrev s_truth : Stmt := top 95
theorem sc_truth : FnScope ["holds"] ["holds"] (defScope s_truth) := ⟨rfl, rfl, rfl, by decide +kernel, rfl, by decide +kernel, by decide +kernel⟩
abbrev s_both : Stmt := top 96
theorem sc_both : FnScope ["numbers"] ["numbers"] (defScope s_both) := ⟨rfl, rfl, rfl, by decide +kernel, rfl, by decide +kernel, by decide +kernel⟩
abbrev s_either : Stmt := top 97
theorem sc_either : FnScope ["numbers"] ["numbers"] (defScope s_either) := ⟨rfl, rfl, rfl, by decide +kernel, rfl, by decide +kernel, by decide +kernel⟩
abbrev s_is_zero : Stmt := top 98
theorem sc_is_zero : FnScope ["numbers"] ["numbers"] (defScope s_is_zero) := ⟨rfl, rfl, rfl, by decide +kernel, rfl, by decide +kernel, by decide +kernel⟩
abbrev s_without_sign : Stmt := top 99
theorem sc_without_sign : FnScope ["numbers"] ["numbers"] (defScope s_without_sign) := ⟨rfl, rfl, rfl, by decide +kernel, rfl, by decide +kernel, by decide +kernel⟩
abbrev s_other_sign : Stmt := top 100
theorem sc_other_sign : FnScope ["numbers"] ["numbers"] (defScope s_other_sign) := ⟨rfl, rfl, rfl, by decide +kernel, rfl, by decide +kernel, by decide +kernel⟩
abbrev s_plus : Stmt := top 101
theorem sc_plus : FnScope ["numbers"] ["numbers"] (defScope s_plus) := ⟨rfl, rfl, rfl, by decide +kernel, rfl, by decide +kernel, by decide +kernel⟩
abbrev s_minus : Stmt := top 102
theorem sc_minus : FnScope ["numbers"] ["numbers"] (defScope s_minus) := ⟨rfl, rfl, rfl, by decide +kernel, rfl, by decide +kernel, by decide +kernel⟩
abbrev s_times : Stmt := top 103
theorem sc_times : FnScope ["numbers"] ["numbers"] (defScope s_times) := ⟨rfl, rfl, rfl, by decide +kernel, rfl, by decide +kernel, by decide +kernel⟩
abbrev s_divided : Stmt := top 104
theorem sc_divided : FnScope ["numbers", "a", "b", "size"] ["numbers"] (defScope s_divided) := ⟨rfl, rfl, rfl, by decide +kernel, rfl, by decide +kernel, by decide +kernel⟩
abbrev s_root : Stmt := top 105
theorem sc_root : FnScope ["numbers", "square", "r", "bit"] ["numbers"] (defScope s_root) := ⟨rfl, rfl, rfl, by decide +kernel, rfl, by decide +kernel, by decide +kernel⟩
abbrev s_equal : Stmt := top 106
theorem sc_equal : FnScope ["numbers"] ["numbers"] (defScope s_equal) := ⟨rfl, rfl, rfl, by decide +kernel, rfl, by decide +kernel, by decide +kernel⟩
abbrev s_chosen : Stmt := top 107
theorem sc_chosen : FnScope ["numbers"] ["numbers"] (defScope s_chosen) := ⟨rfl, rfl, rfl, by decide +kernel, rfl, by decide +kernel, by decide +kernel⟩
abbrev s_reckon : Stmt := top 109
theorem sc_reckon : FnScope ["run", "count", "made_of", "rest", "number"] ["run", "count", "made_of"] (defScope s_reckon) := ⟨rfl, rfl, rfl, by decide +kernel, rfl, by decide +kernel, by decide +kernel⟩
abbrev s_Subroutines___init__ : Stmt := inClass (top 116) 0
theorem sc_Subroutines___init__ : FnScope ["self"] ["self"] (defScope s_Subroutines___init__) := ⟨rfl, rfl, rfl, by decide +kernel, rfl, by decide +kernel, by decide +kernel⟩
abbrev s_replace_kind : Stmt := top 117
theorem sc_replace_kind : FnScope ["subroutines", "kind", "data", "ends", "cut"] ["subroutines", "kind", "data", "ends"] (defScope s_replace_kind) := ⟨rfl, rfl, rfl, by decide +kernel, rfl, by decide +kernel, by decide +kernel⟩
abbrev s_cut_at : Stmt := top 118
theorem sc_cut_at : FnScope ["data", "ends", "cut", "start", "end"] ["data", "ends"] (defScope s_cut_at) := ⟨rfl, rfl, rfl, by decide +kernel, rfl, by decide +kernel, by decide +kernel⟩
abbrev s_added_for : Stmt := top 119
theorem sc_added_for : FnScope ["count"] ["count"] (defScope s_added_for) := ⟨rfl, rfl, rfl, by decide +kernel, rfl, by decide +kernel, by decide +kernel⟩
abbrev s_call_own : Stmt := top 120
theorem sc_call_own : FnScope ["run"] ["run"] (defScope s_call_own) := ⟨rfl, rfl, rfl, by decide +kernel, rfl, by decide +kernel, by decide +kernel⟩
abbrev s_call_common : Stmt := top 121
theorem sc_call_common : FnScope ["run"] ["run"] (defScope s_call_common) := ⟨rfl, rfl, rfl, by decide +kernel, rfl, by decide +kernel, by decide +kernel⟩
abbrev s_call_one_of : Stmt := top 122
theorem sc_call_one_of : FnScope ["run", "subroutines", "number"] ["run", "subroutines"] (defScope s_call_one_of) := ⟨rfl, rfl, rfl, by decide +kernel, rfl, by decide +kernel, by decide +kernel⟩
abbrev s_leave : Stmt := top 123
theorem sc_leave : FnScope ["run", "back"] ["run"] (defScope s_leave) := ⟨rfl, rfl, rfl, by decide +kernel, rfl, by decide +kernel, by decide +kernel⟩
abbrev s_run_program : Stmt := top 130
theorem sc_run_program : FnScope ["code", "most", "subroutines", "run", "refusal"] ["code", "most", "subroutines"] (defScope s_run_program) := ⟨rfl, rfl, rfl, by decide +kernel, rfl, by decide +kernel, by decide +kernel⟩
abbrev s_step : Stmt := top 131
theorem sc_step : FnScope ["run", "first"] ["run"] (defScope s_step) := ⟨rfl, rfl, rfl, by decide +kernel, rfl, by decide +kernel, by decide +kernel⟩
abbrev s_push_number : Stmt := top 132
theorem sc_push_number : FnScope ["run", "first", "behind", "number"] ["run", "first"] (defScope s_push_number) := ⟨rfl, rfl, rfl, by decide +kernel, rfl, by decide +kernel, by decide +kernel⟩
abbrev s_operate : Stmt := top 133
theorem sc_operate : FnScope ["run", "operator", "pieces_of", "reckoned", "deed"] ["run", "operator"] (defScope s_operate) := ⟨rfl, rfl, rfl, by decide +kernel, rfl, by decide +kernel, by decide +kernel⟩
abbrev s_deed_of : Stmt := top 134
theorem sc_deed_of : FnScope ["operator"] ["operator"] (defScope s_deed_of) := ⟨rfl, rfl, rfl, by decide +kernel, rfl, by decide +kernel, by decide +kernel⟩
abbrev s_answers : Stmt := top 137
theorem sc_answers : FnScope ["calls", "subroutines", "given", "at", "first_row", "behind", "ends", "answer"] ["calls"] (defScope s_answers) := ⟨rfl, rfl, rfl, by decide +kernel, rfl, by decide +kernel, by decide +kernel⟩
abbrev s_row_at : Stmt := top 138
theorem sc_row_at : FnScope ["calls", "at"] ["calls", "at"] (defScope s_row_at) := ⟨rfl, rfl, rfl, by decide +kernel, rfl, by decide +kernel, by decide +kernel⟩
def gv (mg : Str → Option Value) (x : Str) : V := match mg x with
  | some (.ref f) => .ref f
  | _ => .non
theorem gv_of {mg : Str → Option Value} {x : Str} {f : Addr} (h : mg x = some (.ref f)) : gv mg x = .ref f := by unfold gv; rw [h]
def tupAt (K : PySem.W.Frag) (t : Addr) (xs : List V) : Prop := ∀ H : Hp, SqT K H t xs
structure Txt (P : Program) (w : World) (K : PySem.W.Frag) (mg : Str → Option Value) (CR CS : Addr) : Prop where
  f_within_bits : Raw K mg "within_bits" s_within_bits
  f_whole_part : Raw K mg "whole_part" s_whole_part
  f_begins_number : Raw K mg "begins_number" s_begins_number
  f_bytes_behind : Raw K mg "bytes_behind" s_bytes_behind
  f_number_of : Raw K mg "number_of" s_number_of
  f_signed : Raw K mg "signed" s_signed
  f_push : Raw K mg "push" s_push
  f_take_all : Raw K mg "take_all" s_take_all
  f_take_with_width : Raw K mg "take_with_width" s_take_with_width
  f_put : Raw K mg "put" s_put
  f_draw_piece : Raw K mg "draw_piece" s_draw_piece
  f_draw : Raw K mg "draw" s_draw
  f_is_none : Raw K mg "is_none" s_is_none
  f_is_one : Raw K mg "is_one" s_is_one
  f_is_two : Raw K mg "is_two" s_is_two
  f_begin_path : Raw K mg "begin_path" s_begin_path
  f_move : Raw K mg "move" s_move
  f_move_along_x : Raw K mg "move_along_x" s_move_along_x
  f_move_along_y : Raw K mg "move_along_y" s_move_along_y
  f_end : Raw K mg "end" s_end
  f_some_pairs : Raw K mg "some_pairs" s_some_pairs
  f_pairs_or_none : Raw K mg "pairs_or_none" s_pairs_or_none
  f_add_hints : Raw K mg "add_hints" s_add_hints
  f_stems : Raw K mg "stems" s_stems
  f_mask : Raw K mg "mask" s_mask
  f_drop : Raw K mg "drop" s_drop
  f_double : Raw K mg "double" s_double
  f_swap : Raw K mg "swap" s_swap
  f_is_cell : Raw K mg "is_cell" s_is_cell
  f_put_in_cell : Raw K mg "put_in_cell" s_put_in_cell
  f_take_from_cell : Raw K mg "take_from_cell" s_take_from_cell
  f_once_more : Raw K mg "once_more" s_once_more
  f_turn : Raw K mg "turn" s_turn
  f_steps_of : Raw K mg "steps_of" s_steps_of
  f_lines_of : Raw K mg "lines_of" s_lines_of
  f_curves_of : Raw K mg "curves_of" s_curves_of
  f_fours_of : Raw K mg "fours_of" s_fours_of
  f_is_fours_or_one_more : Raw K mg "is_fours_or_one_more" s_is_fours_or_one_more
  f_lines : Raw K mg "lines" s_lines
  f_lines_in_turn : Raw K mg "lines_in_turn" s_lines_in_turn
  f_lines_from_x : Raw K mg "lines_from_x" s_lines_from_x
  f_lines_from_y : Raw K mg "lines_from_y" s_lines_from_y
  f_curves : Raw K mg "curves" s_curves
  f_curves_then_line : Raw K mg "curves_then_line" s_curves_then_line
  f_lines_then_curve : Raw K mg "lines_then_curve" s_lines_then_curve
  f_level_curves : Raw K mg "level_curves" s_level_curves
  f_standing_curves : Raw K mg "standing_curves" s_standing_curves
  f_flat_curve : Raw K mg "flat_curve" s_flat_curve
  f_upright_curve : Raw K mg "upright_curve" s_upright_curve
  f_curves_in_turn : Raw K mg "curves_in_turn" s_curves_in_turn
  f_curves_from_flat : Raw K mg "curves_from_flat" s_curves_from_flat
  f_curves_from_upright : Raw K mg "curves_from_upright" s_curves_from_upright
  f_two_curves_of_seven : Raw K mg "two_curves_of_seven" s_two_curves_of_seven
  f_two_curves_of_thirteen : Raw K mg "two_curves_of_thirteen" s_two_curves_of_thirteen
  f_two_curves_of_nine : Raw K mg "two_curves_of_nine" s_two_curves_of_nine
  f_two_curves_of_eleven : Raw K mg "two_curves_of_eleven" s_two_curves_of_eleven
  f_truth : Raw K mg "truth" s_truth
  f_both : Raw K mg "both" s_both
  f_either : Raw K mg "either" s_either
  f_is_zero : Raw K mg "is_zero" s_is_zero
  f_without_sign : Raw K mg "without_sign" s_without_sign
  f_other_sign : Raw K mg "other_sign" s_other_sign
  f_plus : Raw K mg "plus" s_plus
  f_minus : Raw K mg "minus" s_minus
  f_times : Raw K mg "times" s_times
  f_divided : Raw K mg "divided" s_divided
  f_root : Raw K mg "root" s_root
  f_equal : Raw K mg "equal" s_equal
  f_chosen : Raw K mg "chosen" s_chosen
  f_reckon : Raw K mg "reckon" s_reckon
  f_replace_kind : Raw K mg "replace_kind" s_replace_kind
  f_cut_at : Raw K mg "cut_at" s_cut_at
  f_added_for : Raw K mg "added_for" s_added_for
  f_call_own : Raw K mg "call_own" s_call_own
  f_call_common : Raw K mg "call_common" s_call_common
  f_call_one_of : Raw K mg "call_one_of" s_call_one_of
  f_leave : Raw K mg "leave" s_leave
  f_run_program : Raw K mg "run_program" s_run_program
  f_step : Raw K mg "step" s_step
  f_push_number : Raw K mg "push_number" s_push_number
  f_operate : Raw K mg "operate" s_operate
  f_deed_of : Raw K mg "deed_of" s_deed_of
  f_answers : Raw K mg "answers" s_answers
  f_row_at : Raw K mg "row_at" s_row_at
  c_ONE : Cst mg "ONE" (65536)
  c_LEAST : Cst mg "LEAST" (-2147483648)
  c_GREATEST : Cst mg "GREATEST" (2147483647)
  c_SHORT_NUMBER : Cst mg "SHORT_NUMBER" (28)
  c_LEAST_NUMBER_BYTE : Cst mg "LEAST_NUMBER_BYTE" (32)
  c_FINE : Cst mg "FINE" (0)
  c_WRONG_CALL : Cst mg "WRONG_CALL" (-1)
  c_STACK_FULL : Cst mg "STACK_FULL" (-2)
  c_WRONG_COUNT : Cst mg "WRONG_COUNT" (-3)
  c_NO_OPERATOR : Cst mg "NO_OPERATOR" (-4)
  c_NO_SUBROUTINE : Cst mg "NO_SUBROUTINE" (-5)
  c_TOO_DEEP : Cst mg "TOO_DEEP" (-6)
  c_BYTES_END : Cst mg "BYTES_END" (-7)
  c_OUT_OF_RANGE : Cst mg "OUT_OF_RANGE" (-8)
  c_TOO_MUCH_DRAWN : Cst mg "TOO_MUCH_DRAWN" (-9)
  c_TOO_MANY_OPERATORS : Cst mg "TOO_MANY_OPERATORS" (-10)
  c_TOO_MANY_HINTS : Cst mg "TOO_MANY_HINTS" (-11)
  c_NO_PATH : Cst mg "NO_PATH" (-12)
  c_MOST_ON_STACK : Cst mg "MOST_ON_STACK" (48)
  c_HOW_MANY_CELLS : Cst mg "HOW_MANY_CELLS" (32)
  c_NO_WIDTH : Cst mg "NO_WIDTH" (-2147483648)
  c_BEGIN : Cst mg "BEGIN" (0)
  c_LINE : Cst mg "LINE" (1)
  c_CURVE : Cst mg "CURVE" (2)
  c_CLOSE : Cst mg "CLOSE" (3)
  c_MOST_HINTS : Cst mg "MOST_HINTS" (96)
  c_HIGHEST_ROOT_BIT : Cst mg "HIGHEST_ROOT_BIT" (8388608)
  c_OWN_KIND : Cst mg "OWN_KIND" (0)
  c_COMMON_KIND : Cst mg "COMMON_KIND" (1)
  c_MOST_BYTES : Cst mg "MOST_BYTES" (65536)
  c_MOST_SUBROUTINES : Cst mg "MOST_SUBROUTINES" (2048)
  c_MOST_WITHIN : Cst mg "MOST_WITHIN" (10)
  c_MOST_DRAWN : Cst mg "MOST_DRAWN" (1048576)
  c_MOST_OPERATORS : Cst mg "MOST_OPERATORS" (100000)
  c_TWO_BYTES : Cst mg "TWO_BYTES" (12)
  c_TWO_BYTES_FROM : Cst mg "TWO_BYTES_FROM" (1200)
  c_SUBRS : Cst mg "SUBRS" (0)
  b_len : mg "len" = none
  b_abs : mg "abs" = none
  b_max : mg "max" = none
  b_sum : mg "sum" = none
  b_list : mg "list" = none
  b_range : mg "range" = none
  b_enumerate : mg "enumerate" = none
  d_PATHS : MDict P w K mg "PATHS" [(.inl 4, gv mg "move_along_y"), (.inl 14, gv mg "end"), (.inl 21, gv mg "move"), (.inl 22, gv mg "move_along_x")]
  d_HINTING : MDict P w K mg "HINTING" [(.inl 1, gv mg "stems"), (.inl 3, gv mg "stems"), (.inl 18, gv mg "stems"), (.inl 23, gv mg "stems"), (.inl 19, gv mg "mask"), (.inl 20, gv mg "mask")]
  d_KEEPING : MDict P w K mg "KEEPING" [(.inl 1218, gv mg "drop"), (.inl 1220, gv mg "put_in_cell"), (.inl 1221, gv mg "take_from_cell"), (.inl 1227, gv mg "double"), (.inl 1228, gv mg "swap"), (.inl 1229, gv mg "once_more"), (.inl 1230, gv mg "turn")]
  d_PIECES : MDict P w K mg "PIECES" [(.inl 5, gv mg "lines"), (.inl 6, gv mg "lines_from_x"), (.inl 7, gv mg "lines_from_y"), (.inl 8, gv mg "curves"), (.inl 24, gv mg "curves_then_line"), (.inl 25, gv mg "lines_then_curve"), (.inl 26, gv mg "standing_curves"), (.inl 27, gv mg "level_curves"), (.inl 30, gv mg "curves_from_upright"), (.inl 31, gv mg "curves_from_flat"), (.inl 1234, gv mg "two_curves_of_seven"), (.inl 1235, gv mg "two_curves_of_thirteen"), (.inl 1236, gv mg "two_curves_of_nine"), (.inl 1237, gv mg "two_curves_of_eleven")]
  d_RECKONED : ∃ t0 t1 t2 t3 t4 t5 t6 t7 t8 t9 t10 t11 : Addr, MDict P w K mg "RECKONED" [(.inl 1203, .ref t0), (.inl 1204, .ref t1), (.inl 1205, .ref t2), (.inl 1209, .ref t3), (.inl 1210, .ref t4), (.inl 1211, .ref t5), (.inl 1212, .ref t6), (.inl 1214, .ref t7), (.inl 1215, .ref t8), (.inl 1222, .ref t9), (.inl 1224, .ref t10), (.inl 1226, .ref t11)] ∧ tupAt K t0 [.int 2, gv mg "both"] ∧ tupAt K t1 [.int 2, gv mg "either"] ∧ tupAt K t2 [.int 1, gv mg "is_zero"] ∧ tupAt K t3 [.int 1, gv mg "without_sign"] ∧ tupAt K t4 [.int 2, gv mg "plus"] ∧ tupAt K t5 [.int 2, gv mg "minus"] ∧ tupAt K t6 [.int 2, gv mg "divided"] ∧ tupAt K t7 [.int 1, gv mg "other_sign"] ∧ tupAt K t8 [.int 2, gv mg "equal"] ∧ tupAt K t9 [.int 4, gv mg "chosen"] ∧ tupAt K t10 [.int 2, gv mg "times"] ∧ tupAt K t11 [.int 1, gv mg "root"]
  d_CALLING : MDict P w K mg "CALLING" [(.inl 10, gv mg "call_own"), (.inl 11, gv mg "leave"), (.inl 29, gv mg "call_common")]
  mgR : mg "Run" = some (.ref CR)
  mgS : mg "Subroutines" = some (.ref CS)
  clR : Cls K CR
  clS : Cls K CS
  mkR : ∃ f fd, Mk K CR f ∧ Fun K "__init__" "Run.__init__" s_Run___init__ f fd
  mkS : ∃ f fd, Mk K CS f ∧ Fun K "__init__" "Subroutines.__init__" s_Subroutines___init__ f fd
  nR_code : NoAttr K CR "code"
  nR_at : NoAttr K CR "at"
  nR_callers : NoAttr K CR "callers"
  nR_own : NoAttr K CR "own"
  nR_common : NoAttr K CR "common"
  nR_most : NoAttr K CR "most"
  nR_stack : NoAttr K CR "stack"
  nR_cells : NoAttr K CR "cells"
  nR_width : NoAttr K CR "width"
  nR_width_due : NoAttr K CR "width_due"
  nR_hints : NoAttr K CR "hints"
  nR_operators : NoAttr K CR "operators"
  nR_x : NoAttr K CR "x"
  nR_y : NoAttr K CR "y"
  nR_begun : NoAttr K CR "begun"
  nR_drawn : NoAttr K CR "drawn"
  nR_ended : NoAttr K CR "ended"
  nS_own : NoAttr K CS "own"
  nS_common : NoAttr K CS "common"
structure Flds where
  code : Addr
  pc : Int
  callers : Addr
  own : Addr
  common : Addr
  most : Int
  stack : Addr
  cells : Addr
  width : Int
  width_due : Bool
  hints : Int
  operators : Int
  x : Int
  y : Int
  begun : Bool
  drawn : Addr
  ended : Bool
def flds (A : Flds) : List (Str × V) := [("code", .ref A.code), ("at", .int A.pc), ("callers", .ref A.callers), ("own", .ref A.own), ("common", .ref A.common), ("most", .int A.most), ("stack", .ref A.stack), ("cells", .ref A.cells), ("width", .int A.width), ("width_due", .bl A.width_due), ("hints", .int A.hints), ("operators", .int A.operators), ("x", .int A.x), ("y", .int A.y), ("begun", .bl A.begun), ("drawn", .ref A.drawn), ("ended", .bl A.ended)]
theorem flds_len (A : Flds) : (flds A).length < 1000 := by show 17 < 1000; decide
theorem get_code (A : Flds) : (flds A).lookup ("code" : Str) = some (.ref A.code) := by rfl
theorem put_code (A : Flds) (z : Addr) : putF "code" (.ref z) (flds A) = flds { A with code := z } := by rfl
theorem get_pc (A : Flds) : (flds A).lookup ("at" : Str) = some (.int A.pc) := by rfl
theorem put_pc (A : Flds) (z : Int) : putF "at" (.int z) (flds A) = flds { A with pc := z } := by rfl
theorem get_callers (A : Flds) : (flds A).lookup ("callers" : Str) = some (.ref A.callers) := by rfl
theorem put_callers (A : Flds) (z : Addr) : putF "callers" (.ref z) (flds A) = flds { A with callers := z } := by rfl
theorem get_own (A : Flds) : (flds A).lookup ("own" : Str) = some (.ref A.own) := by rfl
theorem put_own (A : Flds) (z : Addr) : putF "own" (.ref z) (flds A) = flds { A with own := z } := by rfl
theorem get_common (A : Flds) : (flds A).lookup ("common" : Str) = some (.ref A.common) := by rfl
theorem put_common (A : Flds) (z : Addr) : putF "common" (.ref z) (flds A) = flds { A with common := z } := by rfl
theorem get_most (A : Flds) : (flds A).lookup ("most" : Str) = some (.int A.most) := by rfl
theorem put_most (A : Flds) (z : Int) : putF "most" (.int z) (flds A) = flds { A with most := z } := by rfl
theorem get_stack (A : Flds) : (flds A).lookup ("stack" : Str) = some (.ref A.stack) := by rfl
theorem put_stack (A : Flds) (z : Addr) : putF "stack" (.ref z) (flds A) = flds { A with stack := z } := by rfl
theorem get_cells (A : Flds) : (flds A).lookup ("cells" : Str) = some (.ref A.cells) := by rfl
theorem put_cells (A : Flds) (z : Addr) : putF "cells" (.ref z) (flds A) = flds { A with cells := z } := by rfl
theorem get_width (A : Flds) : (flds A).lookup ("width" : Str) = some (.int A.width) := by rfl
theorem put_width (A : Flds) (z : Int) : putF "width" (.int z) (flds A) = flds { A with width := z } := by rfl
theorem get_width_due (A : Flds) : (flds A).lookup ("width_due" : Str) = some (.bl A.width_due) := by rfl
theorem put_width_due (A : Flds) (z : Bool) : putF "width_due" (.bl z) (flds A) = flds { A with width_due := z } := by rfl
theorem get_hints (A : Flds) : (flds A).lookup ("hints" : Str) = some (.int A.hints) := by rfl
theorem put_hints (A : Flds) (z : Int) : putF "hints" (.int z) (flds A) = flds { A with hints := z } := by rfl
theorem get_operators (A : Flds) : (flds A).lookup ("operators" : Str) = some (.int A.operators) := by rfl
theorem put_operators (A : Flds) (z : Int) : putF "operators" (.int z) (flds A) = flds { A with operators := z } := by rfl
theorem get_x (A : Flds) : (flds A).lookup ("x" : Str) = some (.int A.x) := by rfl
theorem put_x (A : Flds) (z : Int) : putF "x" (.int z) (flds A) = flds { A with x := z } := by rfl
theorem get_y (A : Flds) : (flds A).lookup ("y" : Str) = some (.int A.y) := by rfl
theorem put_y (A : Flds) (z : Int) : putF "y" (.int z) (flds A) = flds { A with y := z } := by rfl
theorem get_begun (A : Flds) : (flds A).lookup ("begun" : Str) = some (.bl A.begun) := by rfl
theorem put_begun (A : Flds) (z : Bool) : putF "begun" (.bl z) (flds A) = flds { A with begun := z } := by rfl
theorem get_drawn (A : Flds) : (flds A).lookup ("drawn" : Str) = some (.ref A.drawn) := by rfl
theorem put_drawn (A : Flds) (z : Addr) : putF "drawn" (.ref z) (flds A) = flds { A with drawn := z } := by rfl
theorem get_ended (A : Flds) : (flds A).lookup ("ended" : Str) = some (.bl A.ended) := by rfl
theorem put_ended (A : Flds) (z : Bool) : putF "ended" (.bl z) (flds A) = flds { A with ended := z } := by rfl
end Mn
namespace Mn
open PySem PySem.Spec PyProof.Rows L2
section
variable {t u : TS} {n b c : St → Hp → Prop} {r : VK} {σ : St} {H : Hp} {te ta tb tc : TE} {tt tt' : TT} {Q : VK} {QB : Bool → Hp → Prop} {QL : List V → Hp → Prop} {tr : TA} {D : Ends}
theorem rd_seq (h : t (Ends.mk (u (Ends.mk n r b c)) r b c) σ H) : tSeq t u (Ends.mk n r b c) σ H := h
theorem rd_next (h : n σ H) : tNext (Ends.mk n r b c) σ H := h
theorem rd_ret (h : te σ H r) : tRet te (Ends.mk n r b c) σ H := h
theorem rd_if (h : tt σ H fun k H1 => if k = true then t D σ H1 else u D σ H1) : tIfS tt t u D σ H := h
theorem rd_drop (h : te σ H fun _ H1 => n σ H1) : tDrop te (Ends.mk n r b c) σ H := h
theorem rd_asg {g : TG} (h : te σ H fun x H1 => g x σ H1 n) : tAsg te g (Ends.mk n r b c) σ H := h
theorem rd_gname {i : Nat} {v : V} {N : St → Hp → Prop} (h : N (σ.set i (some v)) H) : gName i v σ H N := h
theorem rd_aug {i : Nat} {x : V} {ti : TIp} (e : σ[i]? = some (some x)) (h : te σ H fun y H1 => ti x y H1 fun z H2 => n (σ.set i (some z)) H2) : tAug i te ti (Ends.mk n r b c) σ H := ⟨x, e, h⟩
theorem rd_var {i : Nat} {v : V} (e : σ[i]? = some (some v)) (h : Q v H) : tVar i σ H Q := ⟨v, e, h⟩
theorem rd_c {v : V} (h : Q v H) : tC v σ H Q := h
theorem rd_op {r2 : R2} (h : ta σ H fun x H1 => tb σ H1 fun y H2 => r2 x y H2 Q) : tOp r2 ta tb σ H Q := h
theorem rd_rI0 {g : Int → Int → V} {i j : Int} (h : Q (g i j) H) : rI0 g (.int i) (.int j) H Q := ⟨i, j, rfl, rfl, h⟩
theorem rd_rI {C : Int → Int → Prop} {g : Int → Int → V} {i j : Int} (hc : C i j) (h : Q (g i j) H) : rI C g (.int i) (.int j) H Q := ⟨i, j, rfl, rfl, hc, h⟩
theorem rd_eqI {i j : Int} (h : Q (.bl (decide (i = j))) H) : rEq (.int i) (.int j) H Q := ⟨rfl, by
  have e : decide (V.int i = V.int j) = decide (i = j) := by rw [dec_int, Bool.beq_eq_decide_eq]
  rw [e]; exact h⟩
theorem rd_neI {i j : Int} (h : Q (.bl (!decide (i = j))) H) : rNe (.int i) (.int j) H Q := ⟨rfl, by
  have e : decide (V.int i = V.int j) = decide (i = j) := by rw [dec_int, Bool.beq_eq_decide_eq]
  rw [e]; exact h⟩
theorem rd_eqB {i j : Bool} (h : Q (.bl (decide (i = j))) H) : rEq (.bl i) (.bl j) H Q := ⟨rfl, by
  have e : decide (V.bl i = V.bl j) = decide (i = j) := by rw [dec_bl, Bool.beq_eq_decide_eq]
  rw [e]; exact h⟩
theorem rd_un {ru : V → Hp → VK → Prop} (h : ta σ H fun x H1 => ru x H1 Q) : tUn ru ta σ H Q := h
theorem rd_rU {g : Int → V} {i : Int} (h : Q (g i) H) : rU g (.int i) H Q := ⟨i, rfl, h⟩
theorem rd_chain {r1 r2 : R2} (h : ta σ H fun x H1 => tb σ H1 fun y H2 => r1 x y H2 fun z H3 => ∃ k, z = .bl k ∧ (if k = true then tc σ H3 fun w' H4 => r2 y w' H4 Q else Q (.bl false) H3)) : tChain r1 r2 ta tb tc σ H Q := h
theorem rd_exB {p : Bool → Prop} {k : Bool} (h : p k) : ∃ k', V.bl k = .bl k' ∧ p k' := ⟨k, rfl, h⟩
theorem rd_exI {p : Int → Prop} {k : Int} (h : p k) : ∃ k', V.int k = .int k' ∧ p k' := ⟨k, rfl, h⟩
theorem rd_test (h : te σ H fun x H1 => ∃ k, x = .bl k ∧ QB k H1) : tTest te σ H QB := h
theorem rd_tB (h : te σ H fun x H1 => ∃ k, x = .bl k ∧ QB k H1) : tB te σ H QB := h
theorem rd_and (h : tt σ H fun k H1 => if k = true then tt' σ H1 QB else QB false H1) : tAnd tt tt' σ H QB := h
theorem rd_or (h : tt σ H fun k H1 => if k = true then QB true H1 else tt' σ H1 QB) : tOr tt tt' σ H QB := h
theorem rd_not (h : tt σ H fun k H1 => QB (!k) H1) : tNot tt σ H QB := h
theorem rd_andV (h : ta σ H fun x H1 => ∃ k, x = .bl k ∧ if k = true then tb σ H1 Q else Q (.bl false) H1) : tAndV ta tb σ H Q := h
theorem rd_orV (h : ta σ H fun x H1 => ∃ k, x = .bl k ∧ if k = true then Q (.bl true) H1 else tb σ H1 Q) : tOrV ta tb σ H Q := h
theorem rd_notV (h : ta σ H fun x H1 => ∃ k, x = .bl k ∧ Q (.bl (!k)) H1) : tNotV ta σ H Q := h
theorem rd_ifE (h : tt σ H fun k H1 => if k = true then ta σ H1 Q else tb σ H1 Q) : tIf tt ta tb σ H Q := h
theorem rd_isN (h : ta σ H fun x H1 => Q (.bl (decide (x = .non))) H1) : tIsN ta σ H Q := h
theorem rd_notN (h : ta σ H fun x H1 => Q (.bl (!decide (x = .non))) H1) : tNotN ta σ H Q := h
theorem rd_cb {rr : List V → Hp → VK → Prop} (h : tr σ H fun vs H1 => rr vs H1 Q) : tCB rr tr σ H Q := h
theorem rd_nil (h : QL [] H) : tNil σ H QL := h
theorem rd_cons (h : ta σ H fun x H1 => tr σ H1 fun xs H2 => QL (x :: xs) H2) : tCons ta tr σ H QL := h
theorem rd_cd {sp : Sp} (h : tr σ H fun vs H1 => sp vs H1 Q E0) : tCD sp tr σ H Q := h
theorem rd_cv {i : Nat} {f : Addr} {sp : Sp} (e : σ[i]? = some (some (.ref f))) (h : tr σ H fun vs H1 => sp vs H1 Q E0) : tCV i f sp tr σ H Q := ⟨e, h⟩
theorem rd_fn {mg : Str → Option Value} {x : Str} (h : ∀ f, mg x = some (.ref f) → Q (.ref f) H) : tFn mg x σ H Q := h
theorem rd_lst (h : tr σ H fun xs H1 => xs.length ≤ sizeLine ∧ ∀ p, H1 p = none → Q (.ref p) (upd H1 p (.lst xs))) : tLst tr σ H Q := h
theorem rd_tup (h : tr σ H fun xs H1 => xs.length ≤ sizeLine ∧ ∀ p, H1 p = none → Q (.ref p) (upd H1 p (.tup xs))) : tTup tr σ H Q := h
def Fl (K : PySem.W.Frag) (f : Str) (x : V) (H1 : Hp) (Q : VK) : Prop := ∃ a C dx fs v, x = .ref a ∧ H1 a = some (.ins C dx fs) ∧ Cls K C ∧ NoAttr K C f ∧ fs.lookup f = some v ∧ Q v H1
theorem rd_fld {K : PySem.W.Frag} {f : Str} (h : ta σ H fun x H1 => Fl K f x H1 Q) : tFld K ta f σ H Q := h
def FlS (K : PySem.W.Frag) (f : Str) (y x : V) (H2 : Hp) (Q : Hp → Prop) : Prop := ∃ a C dx fs, x = .ref a ∧ H2 a = some (.ins C dx fs) ∧ Cls K C ∧ NoAttr K C f ∧ fs.length < 1000 ∧ Q (upd H2 a (.ins C dx (putF f y fs)))
theorem rd_sfld {K : PySem.W.Frag} {f : Str} (h : tb σ H fun y H1 => ta σ H1 fun x H2 => FlS K f y x H2 fun H3 => n σ H3) : sFld K ta tb f (Ends.mk n r b c) σ H := h
def FlA (K : PySem.W.Frag) (f : Str) (tv : TE) (rd : V → V → Hp → VK → Prop) (σ : St) (x : V) (H1 : Hp) (Q : Hp → Prop) : Prop := ∃ a C dx fs v, x = .ref a ∧ H1 a = some (.ins C dx fs) ∧ Cls K C ∧ NoAttr K C f ∧ fs.lookup f = some v ∧
  tv σ H1 fun y H2 => rd v y H2 fun z H3 => ∃ dx' fs', H3 a = some (.ins C dx' fs') ∧ fs'.length < 1000 ∧ Q (upd H3 a (.ins C dx' (putF f z fs')))
theorem rd_afld {K : PySem.W.Frag} {f : Str} {rd : V → V → Hp → VK → Prop} (h : ta σ H fun x H1 => FlA K f tb rd σ x H1 fun H3 => n σ H3) : sFldAug K ta tb rd f (Ends.mk n r b c) σ H := h
theorem rd_rAdd {i j : Int} (h : Q (.int (i + j)) H) : rAdd (.int i) (.int j) H Q := ⟨i, j, rfl, rfl, h⟩
theorem rd_ip {f : Int → Int → Int} {i j : Int} (h : Q (.int (f i j)) H) : ipI f (.int i) (.int j) H Q := ⟨i, j, rfl, rfl, h⟩
theorem rd_ipD {i j : Int} (hc : CDivB i j) (h : Q (.int (i / j)) H) : ipD (.int i) (.int j) H Q := ⟨i, j, rfl, rfl, hc, h⟩
theorem rd_bm0 {K : PySem.W.Frag} {T : String} {rr : V → List V → Hp → VK → Prop} (h : te σ H fun x H1 => tyV K T x H1 ∧ rr x [] H1 Q) : tBM0 K T rr te σ H Q := h
theorem rd_bm {K : PySem.W.Frag} {T : String} {rr : V → List V → Hp → VK → Prop} (h : te σ H fun x H1 => tyV K T x H1 ∧ tr σ H1 fun xs H2 => rr x xs H2 Q) : tBM K T rr te tr σ H Q := h
theorem rd_sl {rr : V → Option Int → Option Int → Hp → VK → Prop} {tl th : TO} (h : te σ H fun x H1 => tl σ H1 fun l H2 => th σ H2 fun u H3 => rr x l u H3 Q) : tSl rr te tl th σ H Q := h
theorem rd_nop {QO : Option Int → Hp → Prop} (h : QO none H) : tNoPart σ H QO := h
theorem rd_part {QO : Option Int → Hp → Prop} (h : te σ H fun x H1 => ∃ i, x = .int i ∧ QO (some i) H1) : tPart te σ H QO := h
theorem rd_absR {i : Int} (h : Q (.int (if i < 0 then -i else i)) H) : rAbs [.int i] H Q := ⟨i, rfl, h⟩
theorem rd_maxR {i j : Int} (h : Q (.int (if j > i then j else i)) H) : rMax2 [.int i, .int j] H Q := ⟨i, j, rfl, h⟩
theorem rd_lenR {K : PySem.W.Frag} {a : Addr} {xs : List V} (s : SqL K H a xs) (h : Q (.int xs.length) H) : rLen K [.ref a] H Q := ⟨a, xs, rfl, .inl s, h⟩
theorem rd_listR {K : PySem.W.Frag} {a : Addr} {xs : List V} (s : SqL K H a xs) (h : ∀ l, H l = none → Q (.ref l) (upd H l (.lst xs))) : rListOf K [.ref a] H Q := ⟨a, xs, rfl, .inl s, h⟩
theorem rd_sumR {K : PySem.W.Frag} {a : Addr} {ns : List Int} (s : SqL K H a (ns.map V.int)) (h : Q (.int ns.sum) H) : rSum K [.ref a] H Q := ⟨a, ns, rfl, s, h⟩
theorem rd_ixL {K : PySem.W.Frag} {a : Addr} {xs : List V} {i : Int} {v : V} (s : SqL K H a xs) (e : atI xs i = some v) (h : Q v H) : rIxL K (.ref a) (.int i) H Q := ⟨a, xs, i, v, rfl, rfl, s, e, h⟩
theorem rd_ixT {K : PySem.W.Frag} {a : Addr} {xs : List V} {i : Int} {v : V} (s : SqT K H a xs) (e : atI xs i = some v) (h : Q v H) : rIxT K (.ref a) (.int i) H Q := ⟨a, xs, i, v, rfl, rfl, s, e, h⟩
theorem rd_slL {K : PySem.W.Frag} {a : Addr} {xs : List V} {lo hi : Option Int} (s : SqL K H a xs) (h : ∀ p, H p = none → Q (.ref p) (upd H p (.lst (cutV xs lo hi)))) : rSlL K (.ref a) lo hi H Q := ⟨a, xs, rfl, s, h⟩
theorem rd_append {l : Addr} {xs : List V} {y : V} (e : H l = some (.lst xs)) (hz : xs.length < sizeLine) (h : Q .non (upd H l (.lst (xs ++ [y])))) : rAppend (.ref l) [y] H Q := ⟨l, xs, y, rfl, rfl, e, hz, h⟩
theorem rd_extend {l m : Addr} {xs zs : List V} (e : H l = some (.lst xs)) (e' : H m = some (.lst zs)) (hz : xs.length + zs.length ≤ sizeLine) (h : Q .non (upd H l (.lst (xs ++ zs)))) : rExtend (.ref l) [.ref m] H Q := ⟨l, m, xs, zs, rfl, rfl, e, e', hz, h⟩
theorem rd_pop {l : Addr} {xs : List V} {y : V} (e : H l = some (.lst xs)) (ey : xs[xs.length - 1]? = some y) (h : Q y (upd H l (.lst xs.dropLast))) : rPop (.ref l) [] H Q := ⟨l, xs, y, rfl, rfl, e, ey, h⟩
theorem rd_cat {l m : Addr} {xs zs : List V} (e : H l = some (.lst xs)) (e' : H m = some (.lst zs)) (hz : xs.length + zs.length ≤ sizeLine) (h : ∀ p, H p = none → Q (.ref p) (upd H p (.lst (xs ++ zs)))) : rCat (.ref l) (.ref m) H Q := ⟨l, m, xs, zs, rfl, rfl, e, e', hz, h⟩
end
theorem iteD {p A B : Prop} [Decidable p] (h1 : p → A) (h2 : ¬ p → B) : if (decide p) = true then A else B := by
  by_cases h : p
  · rw [if_pos (decide_eq_true h)]; exact h1 h
  · rw [if_neg (by rw [decide_eq_false h]; exact Bool.false_ne_true)]; exact h2 h
theorem iteN {p A B : Prop} [Decidable p] (h1 : ¬ p → A) (h2 : p → B) : if (!decide p) = true then A else B := by
  by_cases h : p
  · rw [decide_eq_true h]; exact iteF (h2 h)
  · rw [decide_eq_false h]; exact iteT (h1 h)
theorem ite_ref {a : Addr} {A B : Prop} (h : B) : if (decide (V.ref a = V.non)) = true then A else B := iteF h
theorem ite_refN {a : Addr} {A B : Prop} (h : A) : if (!decide (V.ref a = V.non)) = true then A else B := iteT h
theorem ite_int {a : Int} {A B : Prop} (h : B) : if (decide (V.int a = V.non)) = true then A else B := iteF h
theorem ite_non {A B : Prop} (h : A) : if (decide (V.non = V.non)) = true then A else B := iteT h
theorem ite_nonN {A B : Prop} (h : B) : if (!decide (V.non = V.non)) = true then A else B := iteF h
theorem cast_q {Q : VK} {H : Hp} {v v' : V} (e : v = v') (q : Q v H) : Q v' H := e ▸ q
def izs (l : List Int) : List V := l.map V.int
theorem ints_len (l : List Int) : (izs l).length = l.length := List.length_map _
theorem at_ints {l : List Int} {i : Nat} {z : Int} (h : l[i]? = some z) : atI (izs l) (i : Int) = some (.int z) := atI_nat (by unfold izs; rw [List.getElem?_map, h]; rfl)
theorem at_intsD {l : List Int} {i : Nat} (h : i < l.length) : atI (izs l) (i : Int) = some (.int (l.getD i 0)) := at_ints (by rw [List.getD_eq_getElem?_getD, List.getElem?_eq_getElem h]; rfl)
section
variable {K : PySem.W.Frag} {wi : TI} {g : TG} {tb : TS} {D : Ends} {σ : St} {H : Hp} {n b c : St → Hp → Prop} {r : VK} {tl : TE} {R : It → Hp → Prop} {J : It} {tr : TA}
def Loop (J : It) (g : TG) (tb : TS) (D : Ends) (σ : St) (H1 : Hp) : Prop := ∃ W : Nat → Nat → St → Hp → Prop, (∃ m, W 0 m σ H1) ∧ ∀ i m σ H, W i m σ H →
  (J.stop i H ∧ D.nx σ H) ∨ (J.go i H ∧ ∃ N : St → Hp → Prop, (∀ σ' H', N σ' H' → ∃ m', m' < m ∧ W (i + 1) m' σ' H') ∧ ∀ x H', J.yld i H x H' → g x σ H' fun σ2 H2 => tb { D with nx := N, ct := N, bk := D.nx } σ2 H2)
theorem rd_for (h : wi σ H fun J H1 => Loop J g tb D σ H1) : tFor wi g tb D σ H := h
def ItL (K : PySem.W.Frag) (x : V) (H1 : Hp) (R : It → Hp → Prop) : Prop := ∃ a, x = .ref a ∧ (∃ xs, SqL K H1 a xs) ∧ R (Itl K a) H1
theorem rd_iL (h : tl σ H fun x H1 => ItL K x H1 R) : iList K tl σ H R := h
theorem rd_itL {a : Addr} {xs : List V} (s : SqL K H a xs) (h : R (Itl K a) H) : ItL K (.ref a) H R := ⟨a, rfl, ⟨xs, s⟩, h⟩
def ItE (K : PySem.W.Frag) (vs : List V) (H1 : Hp) (R : It → Hp → Prop) : Prop := ∃ a xs, vs = [.ref a] ∧ SqL K H1 a xs ∧ R (Ite K a) H1
theorem rd_iE (h : tr σ H fun vs H1 => ItE K vs H1 R) : iEnum K tr σ H R := h
theorem rd_itE {a : Addr} {xs : List V} (s : SqL K H a xs) (h : R (Ite K a) H) : ItE K [.ref a] H R := ⟨a, xs, rfl, s, h⟩
def It3 (vs : List V) (H1 : Hp) (R : It → Hp → Prop) : Prop := ∃ (i j c : Int) (n : Nat), vs = [.int i, .int j, .int c] ∧ RgC i j c n ∧ R (Itc i c n) H1
theorem rd_i3 (h : tr σ H fun vs H1 => It3 vs H1 R) : iRng3 tr σ H R := h
theorem rd_it3 {i j k : Int} {m : Nat} (s : RgC i j k m) (h : R (Itc i k m) H) : It3 [.int i, .int j, .int k] H R := ⟨i, j, k, m, rfl, s, h⟩
theorem rd_gtup2 {a : Addr} {u v : V} {i j : Nat} {N : St → Hp → Prop} (s : SqT K H a [u, v]) (h : N ((σ.set i (some u)).set j (some v)) H) : gTup K 2 (gCons (gName i) (gCons (gName j) gNil)) (.ref a) σ H N :=
  ⟨a, _, rfl, s, rfl, u, _, rfl, v, _, rfl, rfl, h⟩
theorem loop_list {a : Addr} {xs : List V} (Pv : Nat → St → Hp → Prop) (h0 : Pv 0 σ H) (hl : ∀ i σ H, i ≤ xs.length → Pv i σ H → SqL K H a xs)
    (hs : ∀ i x σ H, xs[i]? = some x → Pv i σ H → g x σ H fun σ2 H2 => tb (Ends.mk (Pv (i + 1)) r n (Pv (i + 1))) σ2 H2) (hd : ∀ σ H, Pv xs.length σ H → n σ H) : Loop (Itl K a) g tb (Ends.mk n r b c) σ H :=
  for_list (K := K) (a := a) (xs := xs) Pv h0 hl hs hd
theorem loop_enum {a : Addr} {xs : List V} (Pv : Nat → St → Hp → Prop) (h0 : Pv 0 σ H) (hl : ∀ i σ H, i ≤ xs.length → Pv i σ H → SqL K H a xs)
    (hs : ∀ i x σ H T, xs[i]? = some x → Pv i σ H → H T = none → g (.ref T) σ (upd H T (.tup [.int (i : Nat), x])) fun σ2 H2 => tb (Ends.mk (Pv (i + 1)) r n (Pv (i + 1))) σ2 H2) (hd : ∀ σ H, Pv xs.length σ H → n σ H) :
    Loop (Ite K a) g tb (Ends.mk n r b c) σ H := by
  refine ⟨fun i m σ H => m = xs.length - i ∧ i ≤ xs.length ∧ Pv i σ H, ⟨xs.length, by simp, Nat.zero_le _, h0⟩, ?_⟩
  rintro i m σ H ⟨rfl, hi, p⟩
  have q := hl i σ H hi p
  by_cases hlt : i < xs.length
  · refine .inr ⟨⟨xs, xs[i], q, by simp [hlt]⟩, Pv (i + 1), fun σ' H' p' => ⟨xs.length - (i + 1), by omega, rfl, hlt, p'⟩, fun x H' y => ?_⟩
    obtain ⟨T, z, e1, e2, e3, e4⟩ := y
    subst e1 e3
    exact hs i z σ _ T (e4 xs q) p e2
  · have e : i = xs.length := by omega
    subst e
    exact .inl ⟨⟨xs, q, Nat.le_refl _⟩, hd σ H p⟩
theorem loop_while {cT : TT} (Pv : St → Hp → Prop) (μ : St → Hp → Nat) (h0 : Pv σ H)
    (hs : ∀ σ H, Pv σ H → cT σ H fun b' H1 => if b' = true then tb (Ends.mk (fun σ' H' => Pv σ' H' ∧ μ σ' H' < μ σ H) r n (fun σ' H' => Pv σ' H' ∧ μ σ' H' < μ σ H)) σ H1 else n σ H1)
    (mono : ∀ σ H Q Q', (∀ b H1, Q b H1 → Q' b H1) → cT σ H Q → cT σ H Q') : tWhile cT tb (Ends.mk n r b c) σ H := while_by Pv μ h0 hs mono
def LcL (J : It) (g : TG) (tt : TT) (te : TE) (vs : List Nat) (σ : St) (Dl : Addr) (H1 : Hp) (Q : VK) : Prop := ∃ W : Nat → Nat → Hp → Prop, (∃ m, W 0 m (upd H1 Dl (.lst []))) ∧ ∀ i m H, W i m H →
  (J.stop i H ∧ Q (.ref Dl) H) ∨ (J.go i H ∧ ∃ Nx : Hp → Prop, (∀ H', Nx H' → ∃ m', m' < m ∧ W (i + 1) m' H') ∧ ∀ x H', J.yld i H x H' → g x (wipe σ vs) H' fun σ2 H2 => wipe σ2 vs = wipe σ vs ∧ tt σ2 H2 fun b H3 =>
    if b = true then te σ2 H3 fun y H4 => ∃ acc, H4 Dl = some (.lst acc) ∧ acc.length < sizeLine ∧ Nx (upd H4 Dl (.lst (acc ++ [y]))) else Nx H3)
theorem rd_lc {te : TE} {tt : TT} {vs : List Nat} {Q : VK} (h : wi σ H fun J H1 => ∀ Dl, H1 Dl = none → LcL J g tt te vs σ Dl H1 Q) : tLc wi g tt te vs σ H Q := h
theorem lcL_list {a : Addr} {xs : List V} {te : TE} {i0 : Nat} {Dl : Addr} {Q : VK} (Pv : Nat → Hp → Prop) (h0 : Pv 0 (upd H Dl (.lst []))) (hl : ∀ i H, i ≤ xs.length → Pv i H → SqL K H a xs)
    (hs : ∀ i x H, xs[i]? = some x → Pv i H → te ((wipe σ [i0]).set i0 (some x)) H fun y H4 => ∃ acc, H4 Dl = some (.lst acc) ∧ acc.length < sizeLine ∧ Pv (i + 1) (upd H4 Dl (.lst (acc ++ [y])))) (hd : ∀ H, Pv xs.length H → Q (.ref Dl) H) :
    LcL (Itl K a) (gName i0) tYes te [i0] σ Dl H Q :=
  lc_list (K := K) (a := a) (xs := xs) Pv h0 hl (fun i x H hx p => ⟨by simp [wipe], hs i x H hx p⟩) hd
theorem lcL_rng {lo k : Int} {m : Nat} {te : TE} {i0 : Nat} {Dl : Addr} {Q : VK} (Pv : Nat → Hp → Prop) (h0 : Pv 0 (upd H Dl (.lst [])))
    (hs : ∀ i H, i < m → Pv i H → te ((wipe σ [i0]).set i0 (some (.int (lo + (i : Nat) * k)))) H fun y H4 => ∃ acc, H4 Dl = some (.lst acc) ∧ acc.length < sizeLine ∧ Pv (i + 1) (upd H4 Dl (.lst (acc ++ [y])))) (hd : ∀ H, Pv m H → Q (.ref Dl) H) :
    LcL (Itc lo k m) (gName i0) tYes te [i0] σ Dl H Q := by
  refine ⟨fun i n H => n = m - i ∧ i ≤ m ∧ Pv i H, ⟨m, by simp, Nat.zero_le _, h0⟩, ?_⟩
  rintro i n H ⟨rfl, hi, p⟩
  by_cases hlt : i < m
  · refine .inr ⟨hlt, Pv (i + 1), fun H' p' => ⟨m - (i + 1), by omega, rfl, hlt, p'⟩, fun x H' y => ?_⟩
    obtain ⟨e, y⟩ := y
    subst e y
    exact ⟨by simp [wipe], hs i _ hlt p⟩
  · have e : i = m := by omega
    subst e
    exact .inl ⟨Nat.le_refl _, hd H p⟩
end
end Mn
namespace Mn
open PySem PySem.Spec PyProof.Rows L2
def bytesV (b : Sa20.Bytes) : List V := izs (b.map bz)
inductive All2 {α β : Type} (F : α → β → Prop) : List α → List β → Prop
  | nil : All2 F [] []
  | cons {a : α} {b : β} {l : List α} {m : List β} : F a b → All2 F l m → All2 F (a :: l) (b :: m)
theorem All2.length {α β : Type} {F : α → β → Prop} : ∀ {l : List α} {m : List β}, All2 F l m → l.length = m.length
  | _, _, .nil => rfl
  | _, _, .cons _ t => by rw [List.length_cons, List.length_cons, t.length]
theorem All2.imp {α β : Type} {F G : α → β → Prop} (h : ∀ a b, F a b → G a b) : ∀ {l : List α} {m : List β}, All2 F l m → All2 G l m
  | _, _, .nil => .nil
  | _, _, .cons r t => .cons (h _ _ r) (t.imp h)
theorem All2.get {α β : Type} {F : α → β → Prop} : ∀ {l : List α} {m : List β} {i : Nat} {b : β}, All2 F l m → m[i]? = some b → ∃ a, l[i]? = some a ∧ F a b
  | _, _, _, _, .nil, e => by simp at e
  | _, _, 0, _, .cons r _, e => by simp at e; subst e; exact ⟨_, rfl, r⟩
  | _, _, i + 1, b, .cons _ t, e => by
    obtain ⟨a, h1, h2⟩ := All2.get (i := i) t (by simpa using e)
    exact ⟨a, by simpa using h1, h2⟩
theorem All2.getL {α β : Type} {F : α → β → Prop} : ∀ {l : List α} {m : List β} {i : Nat} {a : α}, All2 F l m → l[i]? = some a → ∃ b, m[i]? = some b ∧ F a b
  | _, _, _, _, .nil, e => by simp at e
  | _, _, 0, _, .cons r _, e => by simp at e; subst e; exact ⟨_, rfl, r⟩
  | _, _, i + 1, b, .cons _ t, e => by
    obtain ⟨a, h1, h2⟩ := All2.getL (i := i) t (by simpa using e)
    exact ⟨a, by simpa using h1, h2⟩
theorem All2.snoc {α β : Type} {F : α → β → Prop} {a : α} {b : β} (r : F a b) : ∀ {l : List α} {m : List β}, All2 F l m → All2 F (l ++ [a]) (m ++ [b])
  | _, _, .nil => .cons r .nil
  | _, _, .cons r' t => .cons r' (t.snoc r)
theorem All2.unsnoc {α β : Type} {F : α → β → Prop} {m : List β} {b : β} : ∀ {l : List α}, All2 F l (m ++ [b]) → ∃ l' a, l = l' ++ [a] ∧ All2 F l' m ∧ F a b := by
  induction m with
  | nil =>
    intro l h
    cases h with
    | cons r t =>
      cases t
      exact ⟨[], _, rfl, .nil, r⟩
  | cons x m ih =>
    intro l h
    cases h with
    | cons r t =>
      obtain ⟨l', a, e, h1, h2⟩ := ih t
      exact ⟨_ :: l', a, by rw [e]; rfl, .cons r h1, h2⟩
theorem All2.app {α β : Type} {F : α → β → Prop} {l2 : List α} {m2 : List β} (h2 : All2 F l2 m2) : ∀ {l : List α} {m : List β}, All2 F l m → All2 F (l ++ l2) (m ++ m2)
  | _, _, .nil => h2
  | _, _, .cons r' t => .cons r' (h2.app t)
def SubsAt (K : PySem.W.Frag) (H : Hp) (a : Addr) (l : List Sa20.Bytes) : Prop := ∃ as : List Addr, SqL K H a (as.map V.ref) ∧ All2 (fun c b => SqL K H c (bytesV b)) as l
def CallersAt (K : PySem.W.Frag) (HB H : Hp) (a : Addr) (l : List Sa20.Frame) : Prop :=
  ∃ ts : List Addr, H a = some (.lst (ts.map V.ref)) ∧ All2 (fun t (f : Sa20.Frame) => ∃ c, H t = some (.tup [.ref c, .int (f.pc : Int)]) ∧ SqL K HB c (bytesV f.code)) ts l
structure Rep (K : PySem.W.Frag) (CR : Addr) (HB H0 : Hp) (t : Sa20.Subrs) (most : Int) (H : Hp) (r : Addr) (A : Flds) (dx : Addr) (q : Sa20.Run) (e : Bool) : Prop where
  b0 : Same HB H0
  same : Same H0 H
  ins : H r = some (.ins CR dx (flds A))
  fr : H0 r = none
  fs : H0 A.stack = none
  fc : H0 A.cells = none
  fd : H0 A.drawn = none
  fk : H0 A.callers = none
  st : H A.stack = some (.lst (izs q.stack))
  ce : H A.cells = some (.lst (izs q.cells))
  dr : H A.drawn = some (.lst (izs q.out))
  ca : CallersAt K HB H A.callers q.frames.tail.reverse
  co : ∃ f rest, q.frames = f :: rest ∧ SqL K HB A.code (bytesV f.code) ∧ A.pc = (f.pc : Int)
  own : SubsAt K HB A.own t.own
  common : SubsAt K HB A.common t.common
  most_ : A.most = most
  wi : A.width = q.width.getD (-2147483648)
  wd : A.width_due = !q.begun
  hi : A.hints = (q.hints : Int)
  op : A.operators = (q.count : Int)
  x : A.x = q.x
  y : A.y = q.y
  bg : A.begun = q.path
  en : A.ended = e
  d1 : A.stack ≠ A.cells
  d2 : A.stack ≠ A.drawn
  d3 : A.stack ≠ A.callers
  d4 : A.cells ≠ A.drawn
  d5 : A.cells ≠ A.callers
  d6 : A.drawn ≠ A.callers
def Out (K : PySem.W.Frag) (CR : Addr) (HB H0 : Hp) (t : Sa20.Subrs) (most : Int) (r : Addr) (e : Sa20.End) (Q : VK) : Prop := match e with
  | .bad z => ∀ H', Same H0 H' → Q (.int z) H'
  | .on q => ∀ H' A dx, Rep K CR HB H0 t most H' r A dx q false → Q (.int 0) H'
  | .over q => ∀ H' A dx, Rep K CR HB H0 t most H' r A dx q true → Q (.int 0) H'
section
variable {K : PySem.W.Frag} {CR : Addr} {HB H0 H : Hp} {t : Sa20.Subrs} {most : Int} {r : Addr} {A : Flds} {dx : Addr} {q : Sa20.Run} {e : Bool}
theorem ne_ll {H : Hp} {a b C d : Addr} {fs : List (Str × V)} {xs : List V} (h : H a = some (.ins C d fs)) (h' : H b = some (.lst xs)) : b ≠ a := ne_of h' h (by intro z; cases z)
theorem SubsAt.keep {H H' : Hp} {a : Addr} {l : List Sa20.Bytes} (h : SubsAt K H a l) (s : Same H H') : SubsAt K H' a l := by
  obtain ⟨as, h1, h2⟩ := h
  exact ⟨as, s.seq h1, h2.imp fun _ _ k => s.seq k⟩
theorem CallersAt.keep {H H' : Hp} {a : Addr} {l : List Sa20.Frame} (h : CallersAt K HB H a l) (s : ∀ b o, H b = some o → (b = a ∨ ∃ xs, o = .tup xs) → H' b = some o) : CallersAt K HB H' a l := by
  obtain ⟨ts, h1, h2⟩ := h
  exact ⟨ts, s _ _ h1 (.inl rfl), h2.imp fun _ _ ⟨c, k1, k2⟩ => ⟨c, s _ _ k1 (.inr ⟨_, rfl⟩), k2⟩⟩
theorem Rep.setA (R : Rep K CR HB H0 t most H r A dx q e) {A' : Flds} {q' : Sa20.Run} {e' : Bool} (h1 : A'.stack = A.stack) (h2 : A'.cells = A.cells) (h3 : A'.drawn = A.drawn) (h4 : A'.callers = A.callers)
    (k1 : q'.stack = q.stack) (k2 : q'.cells = q.cells) (k3 : q'.out = q.out) (k4 : q'.frames.tail = q.frames.tail)
    (co : ∃ f rest, q'.frames = f :: rest ∧ SqL K HB A'.code (bytesV f.code) ∧ A'.pc = (f.pc : Int)) (ho : A'.own = A.own) (hc : A'.common = A.common) (hm : A'.most = A.most)
    (wi : A'.width = q'.width.getD (-2147483648)) (wd : A'.width_due = !q'.begun) (hi : A'.hints = (q'.hints : Int)) (op : A'.operators = (q'.count : Int)) (hx : A'.x = q'.x) (hy : A'.y = q'.y) (bg : A'.begun = q'.path) (en : A'.ended = e') :
    Rep K CR HB H0 t most (upd H r (.ins CR dx (flds A'))) r A' dx q' e' := by
  have ne : ∀ b o, H b = some o → b ≠ r → (upd H r (.ins CR dx (flds A'))) b = some o := fun b o h n => by rw [upd_ne n]; exact h
  refine ⟨R.b0, fun b o h => ne b o (R.same b o h) (ne_of_none h R.fr), upd_same, R.fr, by rw [h1]; exact R.fs, by rw [h2]; exact R.fc, by rw [h3]; exact R.fd, by rw [h4]; exact R.fk,
    by rw [h1, k1]; exact ne _ _ R.st (ne_ll R.ins R.st), by rw [h2, k2]; exact ne _ _ R.ce (ne_ll R.ins R.ce), by rw [h3, k3]; exact ne _ _ R.dr (ne_ll R.ins R.dr), ?_, co,
    by rw [ho]; exact R.own, by rw [hc]; exact R.common, by rw [hm]; exact R.most_, wi, wd, hi, op, hx, hy, bg, en,
    by rw [h1, h2]; exact R.d1, by rw [h1, h3]; exact R.d2, by rw [h1, h4]; exact R.d3, by rw [h2, h3]; exact R.d4, by rw [h2, h4]; exact R.d5, by rw [h3, h4]; exact R.d6⟩
  rw [h4, k4]
  refine R.ca.keep fun b o h k => ne b o h ?_
  rcases k with k | ⟨xs, k⟩
  · subst k
    obtain ⟨ts, h1, _⟩ := R.ca
    exact ne_ll R.ins h1
  · subst k
    exact ne_of h R.ins (by intro z; cases z)
theorem Rep.stk (R : Rep K CR HB H0 t most H r A dx q e) (S : List Int) : Rep K CR HB H0 t most (upd H A.stack (.lst (izs S))) r A dx { q with stack := S } e := by
  have ne : ∀ b o, H b = some o → b ≠ A.stack → (upd H A.stack (.lst (izs S))) b = some o := fun b o h n => by rw [upd_ne n]; exact h
  refine ⟨R.b0, fun b o h => ne b o (R.same b o h) (ne_of_none h R.fs), ne _ _ R.ins (Ne.symm (ne_ll R.ins R.st)), R.fr, R.fs, R.fc, R.fd, R.fk, upd_same, ne _ _ R.ce (Ne.symm R.d1), ne _ _ R.dr (Ne.symm R.d2), ?_, R.co, R.own, R.common, R.most_, R.wi, R.wd, R.hi, R.op, R.x, R.y, R.bg, R.en, R.d1, R.d2, R.d3, R.d4, R.d5, R.d6⟩
  refine R.ca.keep fun b o h k => ne b o h ?_
  rcases k with k | ⟨xs, k⟩
  · subst k; exact Ne.symm R.d3
  · subst k; exact ne_of h R.st (by intro z; cases z)
theorem Rep.cel (R : Rep K CR HB H0 t most H r A dx q e) (S : List Int) : Rep K CR HB H0 t most (upd H A.cells (.lst (izs S))) r A dx { q with cells := S } e := by
  have ne : ∀ b o, H b = some o → b ≠ A.cells → (upd H A.cells (.lst (izs S))) b = some o := fun b o h n => by rw [upd_ne n]; exact h
  refine ⟨R.b0, fun b o h => ne b o (R.same b o h) (ne_of_none h R.fc), ne _ _ R.ins (Ne.symm (ne_ll R.ins R.ce)), R.fr, R.fs, R.fc, R.fd, R.fk, ne _ _ R.st R.d1, upd_same, ne _ _ R.dr (Ne.symm R.d4), ?_, R.co, R.own, R.common, R.most_, R.wi, R.wd, R.hi, R.op, R.x, R.y, R.bg, R.en, R.d1, R.d2, R.d3, R.d4, R.d5, R.d6⟩
  refine R.ca.keep fun b o h k => ne b o h ?_
  rcases k with k | ⟨xs, k⟩
  · subst k; exact Ne.symm R.d5
  · subst k; exact ne_of h R.ce (by intro z; cases z)
theorem Rep.drw (R : Rep K CR HB H0 t most H r A dx q e) (S : List Int) : Rep K CR HB H0 t most (upd H A.drawn (.lst (izs S))) r A dx { q with out := S } e := by
  have ne : ∀ b o, H b = some o → b ≠ A.drawn → (upd H A.drawn (.lst (izs S))) b = some o := fun b o h n => by rw [upd_ne n]; exact h
  refine ⟨R.b0, fun b o h => ne b o (R.same b o h) (ne_of_none h R.fd), ne _ _ R.ins (Ne.symm (ne_ll R.ins R.dr)), R.fr, R.fs, R.fc, R.fd, R.fk, ne _ _ R.st R.d2, ne _ _ R.ce R.d4, upd_same, ?_, R.co, R.own, R.common, R.most_, R.wi, R.wd, R.hi, R.op, R.x, R.y, R.bg, R.en, R.d1, R.d2, R.d3, R.d4, R.d5, R.d6⟩
  refine R.ca.keep fun b o h k => ne b o h ?_
  rcases k with k | ⟨xs, k⟩
  · subst k; exact Ne.symm R.d6
  · subst k; exact ne_of h R.dr (by intro z; cases z)
theorem Rep.lay (R : Rep K CR HB H0 t most H r A dx q e) {p : Addr} {o : HO} (hp : H p = none) : Rep K CR HB H0 t most (upd H p o) r A dx q e := by
  have ne : ∀ b u, H b = some u → (upd H p o) b = some u := fun b u h => by rw [upd_ne (ne_of_none h hp)]; exact h
  exact ⟨R.b0, fun b u h => ne b u (R.same b u h), ne _ _ R.ins, R.fr, R.fs, R.fc, R.fd, R.fk, ne _ _ R.st, ne _ _ R.ce, ne _ _ R.dr, R.ca.keep fun b u h _ => ne b u h, R.co, R.own, R.common, R.most_, R.wi, R.wd, R.hi, R.op, R.x, R.y, R.bg, R.en, R.d1, R.d2, R.d3, R.d4, R.d5, R.d6⟩
theorem Rep.grow (R : Rep K CR HB H0 t most H r A dx q e) {H' : Hp} (s : Same H H') : Rep K CR HB H0 t most H' r A dx q e :=
  ⟨R.b0, R.same.trans s, s _ _ R.ins, R.fr, R.fs, R.fc, R.fd, R.fk, s _ _ R.st, s _ _ R.ce, s _ _ R.dr, R.ca.keep fun b u h _ => s b u h, R.co, R.own, R.common, R.most_, R.wi, R.wd, R.hi, R.op, R.x, R.y, R.bg, R.en, R.d1, R.d2, R.d3, R.d4, R.d5, R.d6⟩
theorem Rep.newStack (R : Rep K CR HB H0 t most H r A dx q e) {p : Addr} {S : List Int} (hp : H p = some (.lst (izs S))) (n0 : H0 p = none) (n1 : p ≠ A.cells) (n2 : p ≠ A.drawn) (n3 : p ≠ A.callers) :
    Rep K CR HB H0 t most (upd H r (.ins CR dx (flds { A with stack := p }))) r { A with stack := p } dx { q with stack := S } e := by
  have ne : ∀ b o, H b = some o → b ≠ r → (upd H r (.ins CR dx (flds { A with stack := p }))) b = some o := fun b o h n => by rw [upd_ne n]; exact h
  refine ⟨R.b0, fun b o h => ne b o (R.same b o h) (ne_of_none h R.fr), upd_same, R.fr, n0, R.fc, R.fd, R.fk, ne _ _ hp (ne_ll R.ins hp), ne _ _ R.ce (ne_ll R.ins R.ce), ne _ _ R.dr (ne_ll R.ins R.dr), ?_, R.co, R.own, R.common, R.most_, R.wi, R.wd, R.hi, R.op, R.x, R.y, R.bg, R.en, n1, n2, n3, R.d4, R.d5, R.d6⟩
  refine R.ca.keep fun b o h k => ne b o h ?_
  rcases k with k | ⟨xs, k⟩
  · subst k
    obtain ⟨ts, h1, _⟩ := R.ca
    exact ne_ll R.ins h1
  · subst k
    exact ne_of h R.ins (by intro z; cases z)
def minus (H : Hp) (r : Addr) (A : Flds) : Hp := fun b => if b = r ∨ b = A.stack ∨ b = A.cells ∨ b = A.drawn ∨ b = A.callers then none else H b
theorem minus_of {b : Addr} {o : HO} (h : H b = some o) (n : ¬ (b = r ∨ b = A.stack ∨ b = A.cells ∨ b = A.drawn ∨ b = A.callers)) : minus H r A b = some o := by unfold minus; rw [if_neg n]; exact h
theorem of_minus {b : Addr} {o : HO} (h : minus H r A b = some o) : H b = some o ∧ ¬ (b = r ∨ b = A.stack ∨ b = A.cells ∨ b = A.drawn ∨ b = A.callers) := by
  unfold minus at h
  split at h
  · cases h
  · exact ⟨h, by assumption⟩
theorem Rep.minusSame (R : Rep K CR HB H0 t most H r A dx q e) : Same H0 (minus H r A) := fun b o h => by
  refine minus_of (R.same b o h) ?_
  rintro (k | k | k | k | k) <;> subst k
  · rw [R.fr] at h; cases h
  · rw [R.fs] at h; cases h
  · rw [R.fc] at h; cases h
  · rw [R.fd] at h; cases h
  · rw [R.fk] at h; cases h
theorem Rep.up (R : Rep K CR HB H0 t most H r A dx q e) : Rep K CR HB (minus H r A) t most H r A dx q e :=
  ⟨R.b0.trans R.minusSame, fun b o h => (of_minus h).1, R.ins, if_pos (.inl rfl), if_pos (.inr (.inl rfl)), if_pos (.inr (.inr (.inl rfl))), if_pos (.inr (.inr (.inr (.inl rfl)))), if_pos (.inr (.inr (.inr (.inr rfl)))),
    R.st, R.ce, R.dr, R.ca, R.co, R.own, R.common, R.most_, R.wi, R.wd, R.hi, R.op, R.x, R.y, R.bg, R.en, R.d1, R.d2, R.d3, R.d4, R.d5, R.d6⟩
theorem Rep.down {H1 : Hp} (R : Rep K CR HB H1 t most H r A dx q e) (b0 : Same HB H0) (s : Same H0 H1) : Rep K CR HB H0 t most H r A dx q e :=
  ⟨b0, s.trans R.same, R.ins, s.free R.fr, s.free R.fs, s.free R.fc, s.free R.fd, s.free R.fk, R.st, R.ce, R.dr, R.ca, R.co, R.own, R.common, R.most_, R.wi, R.wd, R.hi, R.op, R.x, R.y, R.bg, R.en, R.d1, R.d2, R.d3, R.d4, R.d5, R.d6⟩
theorem Out.down {H1 : Hp} {en : Sa20.End} {Q : VK} (o : Out K CR HB H0 t most r en Q) (b0 : Same HB H0) (s : Same H0 H1) : Out K CR HB H1 t most r en Q := by
  cases en with
  | bad z => exact fun H' h => o H' (s.trans h)
  | on q => exact fun H' A dx R => o H' A dx (R.down b0 s)
  | over q => exact fun H' A dx R => o H' A dx (R.down b0 s)
end
end Mn
namespace Mn
open PySem PySem.Spec PyProof.Rows L2
local macro_rules | `(tactic| walk_at "cond") => `(tactic| first | assumption | exact ⟨by decide, by decide⟩ | (show (0 : Int) < _; decide) | exact Or.inr ⟨by decide, by decide⟩ | exact Or.inl ⟨by omega, by omega⟩ | exact Or.inr ⟨by omega, by omega⟩ | exact ⟨by omega, by omega⟩)
local macro_rules | `(tactic| walk_at "sq") => `(tactic| first | assumption | exact SqL.of (by assumption) | exact SqL.of upd_same)
local macro_rules | `(tactic| walk_at "ix") => `(tactic| first | exact at_intsD (i := 0) (by omega) | exact at_intsD (i := 1) (by omega) | exact at_intsD (i := 2) (by omega) | exact at_intsD (i := 3) (by omega) | assumption)
local macro_rules | `(tactic| walk_at "r1") => `(tactic| first
  | (with_reducible refine rd_seq ?_) | (with_reducible refine rd_if ?_) | (with_reducible refine rd_ret ?_) | (with_reducible refine rd_next ?_) | (with_reducible refine rd_asg ?_) | (with_reducible refine rd_gname ?_) | (with_reducible refine rd_drop ?_)
  | ((with_reducible refine' rd_var ?hx ?_); (case hx => rfl)) | (with_reducible refine rd_c ?_) | (with_reducible refine rd_op ?_) | (with_reducible refine rd_rI0 ?_) | (with_reducible refine rd_test ?_) | (with_reducible refine rd_tB ?_) | (with_reducible refine rd_exB ?_)
  | (with_reducible refine rd_eqI ?_) | (with_reducible refine rd_neI ?_) | (with_reducible refine rd_eqB ?_) | (with_reducible refine rd_cons ?_) | (with_reducible refine rd_nil ?_) | (with_reducible refine rd_cb ?_) | (with_reducible refine rd_cd ?_)
  | (with_reducible refine iteF ?_) | (with_reducible refine iteT ?_) | (with_reducible refine ite_ref ?_) | (with_reducible refine ite_refN ?_) | (with_reducible refine ite_int ?_) | (with_reducible refine ite_non ?_) | (with_reducible refine ite_nonN ?_)
  | (with_reducible refine rd_fld ?_) | (with_reducible refine rd_sfld ?_) | (with_reducible refine rd_afld ?_) | (with_reducible refine rd_bm ?_) | (with_reducible refine rd_bm0 ?_)
  | (with_reducible refine rd_un ?_) | (with_reducible refine rd_rU ?_) | (with_reducible refine rd_chain ?_) | (with_reducible refine rd_and ?_) | (with_reducible refine rd_or ?_) | (with_reducible refine rd_not ?_) | (with_reducible refine rd_andV ?_) | (with_reducible refine rd_orV ?_) | (with_reducible refine rd_notV ?_)
  | (with_reducible refine rd_ifE ?_) | (with_reducible refine rd_isN ?_) | (with_reducible refine rd_notN ?_) | (with_reducible refine rd_lst ?_) | (with_reducible refine rd_tup ?_)
  | ((with_reducible refine rd_rI ?hc ?_); (case hc => walk_at "cond")) | ((with_reducible refine' rd_lenR ?hs ?_); (case hs => walk_at "sq")) | ((with_reducible refine' rd_ixL ?hs ?he ?_); (case hs => walk_at "sq"); (case he => walk_at "ix"))
  | ((with_reducible refine' rd_cv ?hx ?_); (case hx => rfl)) | (with_reducible refine rd_sl ?_) | (with_reducible refine rd_nop ?_) | (with_reducible refine rd_part ?_) | (with_reducible refine rd_exI ?_) | ((with_reducible refine' rd_slL ?hs ?_); (case hs => walk_at "sq"))
  | (with_reducible refine rd_for ?_) | (with_reducible refine rd_iL ?_) | (with_reducible refine rd_iE ?_) | (with_reducible refine rd_i3 ?_) | (with_reducible refine rd_lc ?_) | ((with_reducible refine' rd_itL ?hs ?_); (case hs => walk_at "sq")) | ((with_reducible refine' rd_itE ?hs ?_); (case hs => walk_at "sq"))
  | (with_reducible refine rd_absR ?_) | (with_reducible refine rd_maxR ?_) | ((with_reducible refine' rd_aug ?hx ?_); (case hx => rfl)) | (with_reducible refine rd_ip ?_) | ((with_reducible refine rd_ipD ?hc ?_); (case hc => walk_at "cond")) | (with_reducible refine rd_rAdd ?_) | (with_reducible refine rd_fn ?_))
section
variable {P : Program} {w : World} {K : PySem.W.Frag} {mg : Str → Option Value} {base : Heap} {CR CS : Addr}
def sp1 (g : Int → V) : Sp := fun vs H Q _ => ∃ i, vs = [.int i] ∧ Q (g i) H
theorem tr_and1 {x y : Int} (h : ¬ x = 0) : (x != 0 && y != 0) = !decide (y = 0) := by simp [h, bne, Bool.beq_eq_decide_eq]
theorem tr_and0 {x y : Int} (h : x = 0) : (x != 0 && y != 0) = false := by simp [h]
theorem tr_or1 {x y : Int} (h : ¬ x = 0) : (x != 0 || y != 0) = true := by simp [h]
theorem tr_or0 {x y : Int} (h : x = 0) : (x != 0 || y != 0) = !decide (y = 0) := by simp [h, bne, Bool.beq_eq_decide_eq]
theorem ints_get {l : List Int} {i : Nat} {y : V} (h : (izs l)[i]? = some y) : ∃ z, l[i]? = some z ∧ y = V.int z := by
  unfold izs at h
  rw [List.getElem?_map] at h
  cases e : l[i]? with
  | none => rw [e] at h; cases h
  | some z => rw [e] at h; exact ⟨z, rfl, (Option.some.inj h).symm⟩
theorem take_snoc {α : Type} {l : List α} {i : Nat} {x : α} (h : l[i]? = some x) : l.take (i + 1) = l.take i ++ [x] := by
  rw [List.take_add_one, h]; rfl
theorem headD_getD (l : List Int) : l.headD 0 = l.getD 0 0 := by cases l <;> rfl
theorem tTest_mono {te : TE} {σ : St} {H : Hp} {Q Q' : Bool → Hp → Prop} (hm : ∀ R R' : VK, (∀ v H1, R v H1 → R' v H1) → te σ H R → te σ H R') (hq : ∀ b H1, Q b H1 → Q' b H1) (h : tTest te σ H Q) : tTest te σ H Q' :=
  hm _ _ (fun _ _ ⟨k, e, q⟩ => ⟨k, e, hq _ _ q⟩) h
theorem def_within_bits (T : Txt P w K mg CR CS) : Def P w K mg base "within_bits" 1 ["number"] (sp1 fun i => .bl (decide (fit i))) := by
  refine T.f_within_bits.mk sc_within_bits (fun _ _ _ _ _ _ us hl => match us, hl with | [_], _ => rfl) (fun vs H Q E h => ?_) (fun f cdv A outer s H vs Q E hr h => ?_)
  · obtain ⟨i, rfl, q⟩ := h; rfl
  · obtain ⟨i, rfl, q⟩ := h
    refine ⟨_, (pss_one (ps_ret (pe_chain op_le op_le (pe_cst T.c_LEAST) (pv 0) (pe_cst T.c_GREATEST)))), ?_⟩
    repeat walk_at "r1"
    refine iteD (fun h1 => ?_) (fun h1 => ?_)
    · repeat walk_at "r1"
      exact cast_q (congrArg V.bl (decide_eq_decide.mpr (by unfold fit; omega))) q
    · exact cast_q (congrArg V.bl (decide_eq_false (by unfold fit; omega))) q
theorem def_whole_part (T : Txt P w K mg CR CS) : Def P w K mg base "whole_part" 1 ["number"] (sp1 fun i => .int (i / 65536)) := by
  refine T.f_whole_part.mk sc_whole_part (fun _ _ _ _ _ _ us hl => match us, hl with | [_], _ => rfl) (fun vs H Q E h => ?_) (fun f cdv A outer s H vs Q E hr h => ?_)
  · obtain ⟨i, rfl, q⟩ := h; rfl
  · obtain ⟨i, rfl, q⟩ := h
    refine ⟨_, (pss_one (ps_ret (pe_op op_fdivB (pv 0) (pe_cst T.c_ONE)))), ?_⟩
    repeat walk_at "r1"
    exact q
theorem def_begins_number (T : Txt P w K mg CR CS) : Def P w K mg base "begins_number" 1 ["first"] (sp1 fun i => .bl (decide (32 ≤ i ∨ i = 28))) := by
  refine T.f_begins_number.mk sc_begins_number (fun _ _ _ _ _ _ us hl => match us, hl with | [_], _ => rfl) (fun vs H Q E h => ?_) (fun f cdv A outer s H vs Q E hr h => ?_)
  · obtain ⟨i, rfl, q⟩ := h; rfl
  · obtain ⟨i, rfl, q⟩ := h
    refine ⟨_, (pss_one (ps_ret (pe_or (pe_cmpR op_ge (pv 0) (pe_cst T.c_LEAST_NUMBER_BYTE) (nomark _)) (pe_one (pe_cmpR op_eq (pv 0) (pe_cst T.c_SHORT_NUMBER) (nomark _)))))), ?_⟩
    repeat walk_at "r1"
    refine iteD (fun h1 => ?_) (fun h1 => ?_)
    · exact cast_q (congrArg V.bl (decide_eq_true (by omega))) q
    · repeat walk_at "r1"
      exact cast_q (congrArg V.bl (decide_eq_decide.mpr (by omega))) q
theorem def_bytes_behind (T : Txt P w K mg CR CS) : Def P w K mg base "bytes_behind" 1 ["first"] (sp1 fun i => .int (nBehind i)) := by
  refine T.f_bytes_behind.mk sc_bytes_behind (fun _ _ _ _ _ _ us hl => match us, hl with | [_], _ => rfl) (fun vs H Q E h => ?_) (fun f cdv A outer s H vs Q E hr h => ?_)
  · obtain ⟨i, rfl, q⟩ := h; rfl
  · obtain ⟨i, rfl, q⟩ := h
    refine ⟨_, (pss_cons (ps_if (pt_cmpR op_eq (pv 0) (pe_cst T.c_SHORT_NUMBER) (nomark _)) (pss_one (ps_ret pe_int)) pss_nil) (pss_cons (ps_if (pt_cmpR op_le (pv 0) pe_int (nomark _)) (pss_one (ps_ret pe_int)) pss_nil) (pss_cons (ps_if (pt_cmpR op_le (pv 0) pe_int (nomark _)) (pss_one (ps_ret pe_int)) pss_nil) (pss_one (ps_ret pe_int))))), ?_⟩
    repeat walk_at "r1"
    refine iteD (fun h1 => ?_) (fun h1 => ?_)
    · repeat walk_at "r1"
      exact cast_q (congrArg V.int (by unfold nBehind; rw [if_pos h1])) q
    repeat walk_at "r1"
    refine iteD (fun h2 => ?_) (fun h2 => ?_)
    · repeat walk_at "r1"
      exact cast_q (congrArg V.int (by unfold nBehind; rw [if_neg h1, if_pos h2])) q
    repeat walk_at "r1"
    refine iteD (fun h3 => ?_) (fun h3 => ?_)
    · repeat walk_at "r1"
      exact cast_q (congrArg V.int (by unfold nBehind; rw [if_neg h1, if_neg h2, if_pos h3])) q
    repeat walk_at "r1"
    exact cast_q (congrArg V.int (by unfold nBehind; rw [if_neg h1, if_neg h2, if_neg h3])) q
theorem def_is_none (T : Txt P w K mg CR CS) : Def P w K mg base "is_none" 1 ["count"] (sp1 fun i => .bl (decide (i = 0))) := by
  refine T.f_is_none.mk sc_is_none (fun _ _ _ _ _ _ us hl => match us, hl with | [_], _ => rfl) (fun vs H Q E h => ?_) (fun f cdv A outer s H vs Q E hr h => ?_)
  · obtain ⟨i, rfl, q⟩ := h; rfl
  · obtain ⟨i, rfl, q⟩ := h
    refine ⟨_, (pss_one (ps_ret (pe_cmpR op_eq (pv 0) pe_int (nomark _)))), ?_⟩
    repeat walk_at "r1"
    exact q
theorem def_is_one (T : Txt P w K mg CR CS) : Def P w K mg base "is_one" 1 ["count"] (sp1 fun i => .bl (decide (i = 1))) := by
  refine T.f_is_one.mk sc_is_one (fun _ _ _ _ _ _ us hl => match us, hl with | [_], _ => rfl) (fun vs H Q E h => ?_) (fun f cdv A outer s H vs Q E hr h => ?_)
  · obtain ⟨i, rfl, q⟩ := h; rfl
  · obtain ⟨i, rfl, q⟩ := h
    refine ⟨_, (pss_one (ps_ret (pe_cmpR op_eq (pv 0) pe_int (nomark _)))), ?_⟩
    repeat walk_at "r1"
    exact q
theorem def_is_two (T : Txt P w K mg CR CS) : Def P w K mg base "is_two" 1 ["count"] (sp1 fun i => .bl (decide (i = 2))) := by
  refine T.f_is_two.mk sc_is_two (fun _ _ _ _ _ _ us hl => match us, hl with | [_], _ => rfl) (fun vs H Q E h => ?_) (fun f cdv A outer s H vs Q E hr h => ?_)
  · obtain ⟨i, rfl, q⟩ := h; rfl
  · obtain ⟨i, rfl, q⟩ := h
    refine ⟨_, (pss_one (ps_ret (pe_cmpR op_eq (pv 0) pe_int (nomark _)))), ?_⟩
    repeat walk_at "r1"
    exact q
theorem def_some_pairs (T : Txt P w K mg CR CS) : Def P w K mg base "some_pairs" 1 ["count"] (sp1 fun i => .bl (decide (2 ≤ i ∧ i % 2 = 0))) := by
  refine T.f_some_pairs.mk sc_some_pairs (fun _ _ _ _ _ _ us hl => match us, hl with | [_], _ => rfl) (fun vs H Q E h => ?_) (fun f cdv A outer s H vs Q E hr h => ?_)
  · obtain ⟨i, rfl, q⟩ := h; rfl
  · obtain ⟨i, rfl, q⟩ := h
    refine ⟨_, (pss_one (ps_ret (pe_and (pe_cmpR op_ge (pv 0) pe_int (nomark _)) (pe_one (pe_cmpR op_eq (pe_op op_mod (pv 0) pe_int) pe_int (nomark _)))))), ?_⟩
    repeat walk_at "r1"
    refine iteD (fun h1 => ?_) (fun h1 => ?_)
    · repeat walk_at "r1"
      exact cast_q (congrArg V.bl (decide_eq_decide.mpr (by omega))) q
    · exact cast_q (congrArg V.bl (decide_eq_false (by omega))) q
theorem def_pairs_or_none (T : Txt P w K mg CR CS) : Def P w K mg base "pairs_or_none" 1 ["count"] (sp1 fun i => .bl (decide (i % 2 = 0))) := by
  refine T.f_pairs_or_none.mk sc_pairs_or_none (fun _ _ _ _ _ _ us hl => match us, hl with | [_], _ => rfl) (fun vs H Q E h => ?_) (fun f cdv A outer s H vs Q E hr h => ?_)
  · obtain ⟨i, rfl, q⟩ := h; rfl
  · obtain ⟨i, rfl, q⟩ := h
    refine ⟨_, (pss_one (ps_ret (pe_cmpR op_eq (pe_op op_mod (pv 0) pe_int) pe_int (nomark _)))), ?_⟩
    repeat walk_at "r1"
    exact q
theorem def_is_fours_or_one_more (T : Txt P w K mg CR CS) : Def P w K mg base "is_fours_or_one_more" 1 ["count"] (sp1 fun i => .bl (decide (4 ≤ i ∧ i % 4 ≤ 1))) := by
  refine T.f_is_fours_or_one_more.mk sc_is_fours_or_one_more (fun _ _ _ _ _ _ us hl => match us, hl with | [_], _ => rfl) (fun vs H Q E h => ?_) (fun f cdv A outer s H vs Q E hr h => ?_)
  · obtain ⟨i, rfl, q⟩ := h; rfl
  · obtain ⟨i, rfl, q⟩ := h
    refine ⟨_, (pss_one (ps_ret (pe_and (pe_cmpR op_ge (pv 0) pe_int (nomark _)) (pe_one (pe_cmpR op_le (pe_op op_mod (pv 0) pe_int) pe_int (nomark _)))))), ?_⟩
    repeat walk_at "r1"
    refine iteD (fun h1 => ?_) (fun h1 => ?_)
    · repeat walk_at "r1"
      exact cast_q (congrArg V.bl (decide_eq_decide.mpr (by omega))) q
    · exact cast_q (congrArg V.bl (decide_eq_false (by omega))) q
theorem def_is_cell (T : Txt P w K mg CR CS) : Def P w K mg base "is_cell" 1 ["cell"] (sp1 fun i => .bl (decide (0 ≤ i ∧ i < 32))) := by
  refine T.f_is_cell.mk sc_is_cell (fun _ _ _ _ _ _ us hl => match us, hl with | [_], _ => rfl) (fun vs H Q E h => ?_) (fun f cdv A outer s H vs Q E hr h => ?_)
  · obtain ⟨i, rfl, q⟩ := h; rfl
  · obtain ⟨i, rfl, q⟩ := h
    refine ⟨_, (pss_one (ps_ret (pe_chain op_le op_lt pe_int (pv 0) (pe_cst T.c_HOW_MANY_CELLS)))), ?_⟩
    repeat walk_at "r1"
    refine iteD (fun h1 => ?_) (fun h1 => ?_)
    · repeat walk_at "r1"
      exact cast_q (congrArg V.bl (decide_eq_decide.mpr (by omega))) q
    · exact cast_q (congrArg V.bl (decide_eq_false (by omega))) q
theorem def_added_for (T : Txt P w K mg CR CS) : Def P w K mg base "added_for" 1 ["count"] (sp1 fun i => .int (if i < 1240 then 107 else 1131)) := by
  refine T.f_added_for.mk sc_added_for (fun _ _ _ _ _ _ us hl => match us, hl with | [_], _ => rfl) (fun vs H Q E h => ?_) (fun f cdv A outer s H vs Q E hr h => ?_)
  · obtain ⟨i, rfl, q⟩ := h; rfl
  · obtain ⟨i, rfl, q⟩ := h
    refine ⟨_, (pss_one (ps_ret (pe_ifExp (pt_cmpR op_lt (pv 0) pe_int (nomark _)) pe_int pe_int))), ?_⟩
    repeat walk_at "r1"
    refine iteD (fun h1 => ?_) (fun h1 => ?_)
    · repeat walk_at "r1"
      exact cast_q (congrArg V.int (if_pos h1)) q
    · repeat walk_at "r1"
      exact cast_q (congrArg V.int (if_neg h1)) q
def spTruth : Sp := fun vs H Q _ => ∃ b, vs = [.bl b] ∧ Q (.int (Sa20.truth b)) H
theorem def_truth (T : Txt P w K mg CR CS) : Def P w K mg base "truth" 1 ["holds"] spTruth := by
  refine T.f_truth.mk sc_truth (fun _ _ _ _ _ _ us hl => match us, hl with | [_], _ => rfl) (fun vs H Q E h => ?_) (fun f cdv A outer s H vs Q E hr h => ?_)
  · obtain ⟨b, rfl, q⟩ := h; rfl
  · obtain ⟨b, rfl, q⟩ := h
    refine ⟨_, (pss_one (ps_ret (pe_ifExp (pt_val (pv 0)) (pe_cst T.c_ONE) pe_int))), ?_⟩
    repeat walk_at "r1"
    cases b with
    | true => exact iteT q
    | false => exact iteF q
def optI : Option Int → V
  | some z => .int z
  | none => .non
def spMade (K : PySem.W.Frag) (k : Nat) : Sp := fun vs H Q _ => ∃ a l, vs = [.ref a] ∧ SqL K H a (izs l) ∧ l.length = madeOf k ∧ Fits l ∧ Q (optI (made k l)) H
theorem def_both (T : Txt P w K mg CR CS) : Def P w K mg base "both" 2 ["numbers"] (spMade K 259) := by
  refine T.f_both.mk sc_both (fun _ _ _ _ _ _ us hl => match us, hl with | [_], _ => rfl) (fun vs H Q E h => ?_) (fun f cdv A outer s H vs Q E hr h => ?_)
  · obtain ⟨a, l, rfl, hs, hl, hf, q⟩ := h; rfl
  · obtain ⟨a, l, rfl, hs, hl, hf, q⟩ := h
    refine ⟨_, (pss_one (ps_ret (pe_callD (def_truth T) (hr.mono (by decide)) rfl (pa_cons (pe_and (pe_cmpR op_ne (pe_ix ix_list (pv 0) pe_int (fun _ _ => rfl)) pe_int (nomark _)) (pe_one (pe_cmpR op_ne (pe_ix ix_list (pv 0) pe_int (fun _ _ => rfl)) pe_int (nomark _)))) pa_nil)))), ?_⟩
    have hl : l.length = 2 := hl
    repeat walk_at "r1"
    refine iteN (fun h1 => ?_) (fun h1 => ?_)
    · repeat walk_at "r1"
      exact ⟨_, rfl, cast_q (congrArg V.int (congrArg Sa20.truth (tr_and1 h1))) q⟩
    · repeat walk_at "r1"
      exact ⟨_, rfl, cast_q (congrArg V.int (congrArg Sa20.truth (tr_and0 h1))) q⟩
theorem def_either (T : Txt P w K mg CR CS) : Def P w K mg base "either" 2 ["numbers"] (spMade K 260) := by
  refine T.f_either.mk sc_either (fun _ _ _ _ _ _ us hl => match us, hl with | [_], _ => rfl) (fun vs H Q E h => ?_) (fun f cdv A outer s H vs Q E hr h => ?_)
  · obtain ⟨a, l, rfl, hs, hl, hf, q⟩ := h; rfl
  · obtain ⟨a, l, rfl, hs, hl, hf, q⟩ := h
    refine ⟨_, (pss_one (ps_ret (pe_callD (def_truth T) (hr.mono (by decide)) rfl (pa_cons (pe_or (pe_cmpR op_ne (pe_ix ix_list (pv 0) pe_int (fun _ _ => rfl)) pe_int (nomark _)) (pe_one (pe_cmpR op_ne (pe_ix ix_list (pv 0) pe_int (fun _ _ => rfl)) pe_int (nomark _)))) pa_nil)))), ?_⟩
    have hl : l.length = 2 := hl
    repeat walk_at "r1"
    refine iteN (fun h1 => ?_) (fun h1 => ?_)
    · repeat walk_at "r1"
      exact ⟨_, rfl, cast_q (congrArg V.int (congrArg Sa20.truth (tr_or1 h1))) q⟩
    · repeat walk_at "r1"
      exact ⟨_, rfl, cast_q (congrArg V.int (congrArg Sa20.truth (tr_or0 h1))) q⟩
theorem def_is_zero (T : Txt P w K mg CR CS) : Def P w K mg base "is_zero" 2 ["numbers"] (spMade K 261) := by
  refine T.f_is_zero.mk sc_is_zero (fun _ _ _ _ _ _ us hl => match us, hl with | [_], _ => rfl) (fun vs H Q E h => ?_) (fun f cdv A outer s H vs Q E hr h => ?_)
  · obtain ⟨a, l, rfl, hs, hl, hf, q⟩ := h; rfl
  · obtain ⟨a, l, rfl, hs, hl, hf, q⟩ := h
    refine ⟨_, (pss_one (ps_ret (pe_callD (def_truth T) (hr.mono (by decide)) rfl (pa_cons (pe_cmpR op_eq (pe_ix ix_list (pv 0) pe_int (fun _ _ => rfl)) pe_int (nomark _)) pa_nil)))), ?_⟩
    have hl : l.length = 1 := hl
    repeat walk_at "r1"
    exact ⟨_, rfl, cast_q (congrArg V.int (congrArg Sa20.truth (by rw [Bool.beq_eq_decide_eq]))) q⟩
theorem def_equal (T : Txt P w K mg CR CS) : Def P w K mg base "equal" 2 ["numbers"] (spMade K 271) := by
  refine T.f_equal.mk sc_equal (fun _ _ _ _ _ _ us hl => match us, hl with | [_], _ => rfl) (fun vs H Q E h => ?_) (fun f cdv A outer s H vs Q E hr h => ?_)
  · obtain ⟨a, l, rfl, hs, hl, hf, q⟩ := h; rfl
  · obtain ⟨a, l, rfl, hs, hl, hf, q⟩ := h
    refine ⟨_, (pss_one (ps_ret (pe_callD (def_truth T) (hr.mono (by decide)) rfl (pa_cons (pe_cmpR op_eq (pe_ix ix_list (pv 0) pe_int (fun _ _ => rfl)) (pe_ix ix_list (pv 0) pe_int (fun _ _ => rfl)) (nomark _)) pa_nil)))), ?_⟩
    have hl : l.length = 2 := hl
    repeat walk_at "r1"
    exact ⟨_, rfl, cast_q (congrArg V.int (congrArg Sa20.truth (by rw [Bool.beq_eq_decide_eq]))) q⟩
theorem def_without_sign (T : Txt P w K mg CR CS) : Def P w K mg base "without_sign" 1 ["numbers"] (spMade K 265) := by
  refine T.f_without_sign.mk sc_without_sign (fun _ _ _ _ _ _ us hl => match us, hl with | [_], _ => rfl) (fun vs H Q E h => ?_) (fun f cdv A outer s H vs Q E hr h => ?_)
  · obtain ⟨a, l, rfl, hs, hl, hf, q⟩ := h; rfl
  · obtain ⟨a, l, rfl, hs, hl, hf, q⟩ := h
    refine ⟨_, (pss_one (ps_ret (pe_callB call_absR rfl T.b_abs bt_abs (pa_cons (pe_ix ix_list (pv 0) pe_int (fun _ _ => rfl)) pa_nil)))), ?_⟩
    have hl : l.length = 1 := hl
    repeat walk_at "r1"
    exact q
theorem def_other_sign (T : Txt P w K mg CR CS) : Def P w K mg base "other_sign" 1 ["numbers"] (spMade K 270) := by
  refine T.f_other_sign.mk sc_other_sign (fun _ _ _ _ _ _ us hl => match us, hl with | [_], _ => rfl) (fun vs H Q E h => ?_) (fun f cdv A outer s H vs Q E hr h => ?_)
  · obtain ⟨a, l, rfl, hs, hl, hf, q⟩ := h; rfl
  · obtain ⟨a, l, rfl, hs, hl, hf, q⟩ := h
    refine ⟨_, (pss_one (ps_ret (pe_un un_neg (pe_ix ix_list (pv 0) pe_int (fun _ _ => rfl))))), ?_⟩
    have hl : l.length = 1 := hl
    repeat walk_at "r1"
    exact q
theorem def_plus (T : Txt P w K mg CR CS) : Def P w K mg base "plus" 1 ["numbers"] (spMade K 266) := by
  refine T.f_plus.mk sc_plus (fun _ _ _ _ _ _ us hl => match us, hl with | [_], _ => rfl) (fun vs H Q E h => ?_) (fun f cdv A outer s H vs Q E hr h => ?_)
  · obtain ⟨a, l, rfl, hs, hl, hf, q⟩ := h; rfl
  · obtain ⟨a, l, rfl, hs, hl, hf, q⟩ := h
    refine ⟨_, (pss_one (ps_ret (pe_op op_add (pe_ix ix_list (pv 0) pe_int (fun _ _ => rfl)) (pe_ix ix_list (pv 0) pe_int (fun _ _ => rfl))))), ?_⟩
    have hl : l.length = 2 := hl
    repeat walk_at "r1"
    exact q
theorem def_minus (T : Txt P w K mg CR CS) : Def P w K mg base "minus" 1 ["numbers"] (spMade K 267) := by
  refine T.f_minus.mk sc_minus (fun _ _ _ _ _ _ us hl => match us, hl with | [_], _ => rfl) (fun vs H Q E h => ?_) (fun f cdv A outer s H vs Q E hr h => ?_)
  · obtain ⟨a, l, rfl, hs, hl, hf, q⟩ := h; rfl
  · obtain ⟨a, l, rfl, hs, hl, hf, q⟩ := h
    refine ⟨_, (pss_one (ps_ret (pe_op op_sub (pe_ix ix_list (pv 0) pe_int (fun _ _ => rfl)) (pe_ix ix_list (pv 0) pe_int (fun _ _ => rfl))))), ?_⟩
    have hl : l.length = 2 := hl
    repeat walk_at "r1"
    exact q
theorem def_times (T : Txt P w K mg CR CS) : Def P w K mg base "times" 1 ["numbers"] (spMade K 280) := by
  refine T.f_times.mk sc_times (fun _ _ _ _ _ _ us hl => match us, hl with | [_], _ => rfl) (fun vs H Q E h => ?_) (fun f cdv A outer s H vs Q E hr h => ?_)
  · obtain ⟨a, l, rfl, hs, hl, hf, q⟩ := h; rfl
  · obtain ⟨a, l, rfl, hs, hl, hf, q⟩ := h
    refine ⟨_, (pss_one (ps_ret (pe_op op_fdivB (pe_op op_mul (pe_ix ix_list (pv 0) pe_int (fun _ _ => rfl)) (pe_ix ix_list (pv 0) pe_int (fun _ _ => rfl))) (pe_cst T.c_ONE)))), ?_⟩
    have hl : l.length = 2 := hl
    have f0 := hf.getD 0
    have f1 := hf.getD 1
    unfold fit at f0 f1
    repeat walk_at "r1"
    exact q
theorem def_chosen (T : Txt P w K mg CR CS) : Def P w K mg base "chosen" 1 ["numbers"] (spMade K 278) := by
  refine T.f_chosen.mk sc_chosen (fun _ _ _ _ _ _ us hl => match us, hl with | [_], _ => rfl) (fun vs H Q E h => ?_) (fun f cdv A outer s H vs Q E hr h => ?_)
  · obtain ⟨a, l, rfl, hs, hl, hf, q⟩ := h; rfl
  · obtain ⟨a, l, rfl, hs, hl, hf, q⟩ := h
    refine ⟨_, (pss_one (ps_ret (pe_ifExp (pt_cmpR op_le (pe_ix ix_list (pv 0) pe_int (fun _ _ => rfl)) (pe_ix ix_list (pv 0) pe_int (fun _ _ => rfl)) (nomark _)) (pe_ix ix_list (pv 0) pe_int (fun _ _ => rfl)) (pe_ix ix_list (pv 0) pe_int (fun _ _ => rfl))))), ?_⟩
    have hl : l.length = 4 := hl
    repeat walk_at "r1"
    refine iteD (fun h1 => ?_) (fun h1 => ?_)
    · repeat walk_at "r1"
      exact cast_q (congrArg V.int (if_pos h1)) q
    · repeat walk_at "r1"
      exact cast_q (congrArg V.int (if_neg h1)) q
theorem def_divided (T : Txt P w K mg CR CS) : Def P w K mg base "divided" 1 ["numbers"] (spMade K 268) := by
  refine T.f_divided.mk sc_divided (fun _ _ _ _ _ _ us hl => match us, hl with | [_], _ => rfl) (fun vs H Q E h => ?_) (fun f cdv A outer s H vs Q E hr h => ?_)
  · obtain ⟨a, l, rfl, hs, hl, hf, q⟩ := h; rfl
  · obtain ⟨a, l, rfl, hs, hl, hf, q⟩ := h
    refine ⟨_, (pss_cons (ps_set (i := 1) sc_divided.nd rfl (Or.inl rfl) (pe_ix ix_list (pv 0) pe_int (fun _ _ => rfl))) (pss_cons (ps_set (i := 2) sc_divided.nd rfl (Or.inl rfl) (pe_ix ix_list (pv 0) pe_int (fun _ _ => rfl))) (pss_cons (ps_if (pt_cmpR op_eq (pv 2) pe_int (nomark _)) (pss_one (ps_ret pe_non)) pss_nil) (pss_cons (ps_set (i := 3) sc_divided.nd rfl (Or.inl rfl) (pe_op op_fdivB (pe_op op_mul (pe_callB call_absR rfl T.b_abs bt_abs (pa_cons (pv 1) pa_nil)) (pe_cst T.c_ONE)) (pe_callB call_absR rfl T.b_abs bt_abs (pa_cons (pv 2) pa_nil)))) (pss_one (ps_ret (pe_ifExp (pt_cmpR op_eq (pe_cmpR op_lt (pv 1) pe_int (nomark _)) (pe_cmpR op_lt (pv 2) pe_int (nomark _)) (nomark _)) (pv 3) (pe_un un_neg (pv 3))))))))), ?_⟩
    have hl : l.length = 2 := hl
    have f0 := hf.getD 0
    have f1 := hf.getD 1
    unfold fit at f0 f1
    repeat walk_at "r1"
    refine iteD (fun h1 => ?_) (fun h1 => ?_)
    · repeat walk_at "r1"
      exact cast_q (congrArg optI (if_pos h1)) q
    have q2 : Q (.int ((65536 * l.getD 0 0).tdiv (l.getD 1 0))) H := cast_q (congrArg optI (if_neg h1)) q
    rw [divided_eq h1] at q2
    have b1 : CDivB ((if l.getD 0 0 < 0 then -l.getD 0 0 else l.getD 0 0) * 65536) (if l.getD 1 0 < 0 then -l.getD 1 0 else l.getD 1 0) := by
      constructor
      · split <;> omega
      · split <;> omega
    repeat walk_at "r1"
    refine iteD (fun h2 => ?_) (fun h2 => ?_)
    · repeat walk_at "r1"
      exact cast_q (congrArg V.int (if_pos h2)) q2
    · repeat walk_at "r1"
      exact cast_q (congrArg V.int (if_neg h2)) q2
theorem def_root (T : Txt P w K mg CR CS) : Def P w K mg base "root" 1 ["numbers"] (spMade K 282) := by
  refine T.f_root.mk sc_root (fun _ _ _ _ _ _ us hl => match us, hl with | [_], _ => rfl) (fun vs H Q E h => ?_) (fun f cdv A outer s H vs Q E hr h => ?_)
  · obtain ⟨a, l, rfl, hs, hl, hf, q⟩ := h; rfl
  · obtain ⟨a, l, rfl, hs, hl, hf, q⟩ := h
    refine ⟨_, (pss_cons (ps_if (pt_cmpR op_lt (pe_ix ix_list (pv 0) pe_int (fun _ _ => rfl)) pe_int (nomark _)) (pss_one (ps_ret pe_non)) pss_nil) (pss_cons (ps_set (i := 1) sc_root.nd rfl (Or.inl rfl) (pe_op op_mul (pe_ix ix_list (pv 0) pe_int (fun _ _ => rfl)) (pe_cst T.c_ONE))) (pss_cons (ps_set (i := 2) sc_root.nd rfl (Or.inl rfl) pe_int) (pss_cons (ps_set (i := 3) sc_root.nd rfl (Or.inl rfl) (pe_cst T.c_HIGHEST_ROOT_BIT)) (pss_cons (ps_while PassesOwn.never (pt_cmpR op_gt (pv 3) pe_int (nomark _)) (pss_cons (ps_if (pt_cmpR op_le (pe_op op_mul (pe_op op_add (pv 2) (pv 3)) (pe_op op_add (pv 2) (pv 3))) (pv 1) (nomark _)) (pss_one (ps_aug (i := 2) sc_root.nd rfl (Or.inl rfl) (pv 3) ip_add)) pss_nil) (pss_one (ps_aug (i := 3) sc_root.nd rfl (Or.inl rfl) pe_int ip_fdiv)))) (pss_one (ps_ret (pv 2)))))))), ?_⟩
    have hl : l.length = 1 := hl
    have f0 := hf.getD 0
    unfold fit at f0
    repeat walk_at "r1"
    refine iteD (fun h1 => ?_) (fun h1 => ?_)
    · repeat walk_at "r1"
      exact cast_q (congrArg optI (if_pos h1)) q
    have q2 : Q (.int ((Sa20.root (65536 * l.getD 0 0).toNat : Nat) : Int)) H := cast_q (congrArg optI (if_neg h1)) q
    rw [root_eq (by omega)] at q2
    repeat walk_at "r1"
    generalize hn : (65536 * l.getD 0 0).toNat = n at q2
    have hn2 : l.getD 0 0 * 65536 = (n : Int) := by omega
    rw [hn2]
    refine loop_while (fun σ H' => H' = H ∧ ∃ (r bit k : Nat), σ = [some (.ref a), some (.int (n : Int)), some (.int (r : Int)), some (.int (bit : Int))] ∧ r + bit ≤ 2 ^ 25 ∧
        ((bit = 2 ^ k ∧ k ≤ 23 ∧ rootFrom n (k + 1) r = rootFrom n 24 0) ∨ (bit = 0 ∧ r = rootFrom n 24 0)))
      (fun σ _ => match σ with | [_, _, _, some (.int b)] => b.toNat | _ => 0) ⟨rfl, 0, 2 ^ 23, 23, rfl, by decide, .inl ⟨rfl, by decide, rfl⟩⟩ ?_ ?_
    · rintro σ H' ⟨rfl, r, bit, k, rfl, hb, hc⟩
      repeat walk_at "r1"
      refine iteD (fun h2 => ?_) (fun h2 => ?_)
      · rcases hc with ⟨e1, e2, e3⟩ | ⟨e1, _⟩
        · repeat walk_at "r1"
          have fin : ∀ r' : Nat, r' + bit ≤ 2 ^ 25 → rootFrom n k r' = rootFrom n 24 0 → (∃ (r bit' k : Nat), ([some (.ref a), some (.int (n : Int)), some (.int (r' : Int)), some (.int ((bit : Int) / 2))] : St) = [some (.ref a), some (.int (n : Int)), some (.int (r : Int)), some (.int (bit' : Int))] ∧ r + bit' ≤ 2 ^ 25 ∧
              ((bit' = 2 ^ k ∧ k ≤ 23 ∧ rootFrom n (k + 1) r = rootFrom n 24 0) ∨ (bit' = 0 ∧ r = rootFrom n 24 0))) := fun r' hr' he => by
            cases k with
            | zero => exact ⟨r', 0, 0, by rw [e1]; rfl, by omega, .inr ⟨rfl, he⟩⟩
            | succ k =>
              have e4 : bit = 2 ^ k * 2 := by rw [e1, Nat.pow_succ]
              refine ⟨r', 2 ^ k, k, ?_, by omega, .inl ⟨rfl, by omega, he⟩⟩
              have e5 : (bit : Int) / 2 = ((2 ^ k : Nat) : Int) := by omega
              rw [e5]
          have e3' : rootFrom n k (if (r + 2 ^ k) * (r + 2 ^ k) ≤ n then r + 2 ^ k else r) = rootFrom n 24 0 := e3
          rw [← e1] at e3'
          have hsq : ((r : Int) + bit) * ((r : Int) + bit) = (((r + bit) * (r + bit) : Nat) : Int) := by rw [Int.natCast_mul, Int.natCast_add]
          refine iteD (fun h3 => ?_) (fun h3 => ?_)
          · rw [hsq] at h3
            rw [if_pos (by omega)] at e3'
            repeat walk_at "r1"
            have g := fin (r + bit) (by
              have : bit ≤ 2 ^ 23 := by rw [e1]; exact Nat.pow_le_pow_right (by decide) e2
              have : r + bit < 2 ^ 24 := by
                refine Nat.lt_of_not_le fun q3 => ?_
                have := Nat.mul_le_mul q3 q3
                have : n < 2 ^ 47 := by omega
                omega
              omega) e3'
            refine ⟨⟨rfl, ?_⟩, ?_⟩
            · rw [Int.natCast_add] at g; exact g
            · show ((bit : Int) / 2).toNat < ((bit : Nat) : Int).toNat
              omega
          · rw [hsq] at h3
            rw [if_neg (by omega)] at e3'
            repeat walk_at "r1"
            refine ⟨⟨rfl, fin r (by omega) e3'⟩, ?_⟩
            show ((bit : Int) / 2).toNat < ((bit : Nat) : Int).toNat
            omega
        · exact absurd h2 (by omega)
      · rcases hc with ⟨e1, e2, e3⟩ | ⟨e1, e2⟩
        · have : 0 < bit := by rw [e1]; exact Nat.two_pow_pos k
          exact absurd h2 (by omega)
        · repeat walk_at "r1"
          rw [e2]; exact q2
    · intro σ H1 Q1 Q2 hm hq
      obtain ⟨v, e, i, j, e1, e2, k, e3, hq⟩ := hq
      exact ⟨v, e, i, j, e1, e2, k, e3, hm _ _ hq⟩
def spSig (K : PySem.W.Frag) : Sp := fun vs H Q _ => ∃ a l, vs = [.ref a] ∧ SqL K H a (izs l) ∧ 0 < l.length ∧ ∀ H', Same H H' → Q (.int (signedP l)) H'
theorem cut_ints (l : List Int) (lo hi : Option Int) : cutV (izs l) lo hi = izs ((l.drop (HT.sIx l.length 0 lo)).take (HT.sIx l.length l.length hi - HT.sIx l.length 0 lo)) := by
  unfold cutV izs
  rw [List.length_map, List.map_take, List.map_drop]
theorem cut_one (x : Int) (l : List Int) : cutV (izs (x :: l)) (some 1) none = izs l := by
  rw [cut_ints]
  congr 1
  show ((x :: l).drop (HT.sIx (l.length + 1) 0 (some 1))).take ((l.length + 1) - HT.sIx (l.length + 1) 0 (some 1)) = l
  have e : HT.sIx (l.length + 1) 0 (some 1) = 1 := by
    unfold HT.sIx; simp
  rw [e]
  simp
theorem Same.new {H : Hp} {p : Addr} {o : HO} (h : H p = none) : Same H (upd H p o) := fun b u e => by
  rw [upd_ne (ne_of_none e h)]; exact e
theorem def_signed (T : Txt P w K mg CR CS) : Def P w K mg base "signed" 1 ["digits"] (spSig K) := by
  refine T.f_signed.mk sc_signed (fun _ _ _ _ _ _ us hl => match us, hl with | [_], _ => rfl) (fun vs H Q E h => ?_) (fun f cdv A outer s H vs Q E hr h => ?_)
  · obtain ⟨a, l, rfl, hs, hl, q⟩ := h; rfl
  · obtain ⟨a, l, rfl, hs, hl, q⟩ := h
    refine ⟨_, (pss_cons (ps_set (i := 1) sc_signed.nd rfl (Or.inl rfl) (pe_ix ix_list (pv 0) pe_int (fun _ _ => rfl))) (pss_cons (ps_if (pt_cmpR op_ge (pv 1) pe_int (nomark _)) (pss_one (ps_aug (i := 1) sc_signed.nd rfl (Or.inl rfl) pe_int ip_sub)) pss_nil) (pss_cons (ps_for PassesOwn.never rfl (pi_list (pe_slice sl_list (pv 0) (po_some pe_int) po_none)) (pg_name (i := 2) sc_signed.nd rfl (Or.inl rfl)) (pss_one (ps_set (i := 1) sc_signed.nd rfl (Or.inl rfl) (pe_op op_add (pe_op op_mul (pv 1) pe_int) (pv 2))))) (pss_one (ps_ret (pv 1)))))), ?_⟩
    obtain ⟨x, l', rfl⟩ : ∃ x l', l = x :: l' := by
      cases l with
      | nil => exact absurd hl (by simp)
      | cons x l' => exact ⟨x, l', rfl⟩
    have fin : ∀ (z : Int) (H2 : Hp) (p : Addr), (if 128 ≤ x then x - 256 else x) = z → Same H H2 → H2 p = some (.lst (izs l')) → ∀ (c : St → Hp → Prop),
        Loop (Itl K p) (gName 2) (tAsg (tOp (rI0 fun i j => V.int (i + j)) (tOp (rI CMul fun i j => V.int (i * j)) (tVar 1) (tC (V.int 256))) (tVar 2)) (gName 1)) (Ends.mk (tRet (tVar 1) (Ends.mk (fun _ H' => Q .non H') Q (fun _ _ => False) (fun _ _ => False))) Q (fun _ _ => False) c) [some (.ref a), some (.int z), none] H2 := by
      intro z H2 p hz hS hp c
      refine loop_list (xs := izs l') (fun i σ H' => H' = H2 ∧ ∃ v, σ = [some (.ref a), some (.int ((l'.take i).foldl (fun n d => n * 256 + d) z)), v]) ⟨rfl, none, rfl⟩ (fun i σ H' _ ⟨e, _⟩ => by rw [e]; exact SqL.of hp) ?_ ?_
      · rintro i y σ H' hi ⟨rfl, v, rfl⟩
        obtain ⟨d, hd, rfl⟩ := ints_get hi
        repeat walk_at "r1"
        refine ⟨rfl, some (.int d), ?_⟩
        rw [take_snoc hd, List.foldl_append]; rfl
      · rintro σ H' ⟨rfl, v, rfl⟩
        repeat walk_at "r1"
        have e1 := q H' hS
        rw [ints_len, List.take_length]
        subst hz; exact e1
    repeat walk_at "r1"
    refine iteD (fun h1 => ?_) (fun h1 => ?_)
    all_goals (repeat walk_at "r1")
    all_goals intro p hp
    all_goals (repeat walk_at "r1")
    · exact fin _ _ p (if_pos h1) (Same.new hp) (upd_same.trans (by rw [cut_one])) _
    · exact fin _ _ p (if_neg h1) (Same.new hp) (upd_same.trans (by rw [cut_one])) _
def spNum (K : PySem.W.Frag) : Sp := fun vs H Q _ => ∃ b a l, vs = [.int b, .ref a] ∧ SqL K H a (izs l) ∧ l.length = (nBehind b).toNat ∧ ∀ H', Same H H' → Q (.int (numOf b l)) H'
theorem def_number_of (T : Txt P w K mg CR CS) : Def P w K mg base "number_of" 2 ["first", "behind"] (spNum K) := by
  refine T.f_number_of.mk sc_number_of (fun _ _ _ _ _ _ us hl => match us, hl with | [_, _], _ => rfl) (fun vs H Q E h => ?_) (fun f cdv A outer s H vs Q E hr h => ?_)
  · obtain ⟨b, a, l, rfl, hs, hl, q⟩ := h; rfl
  · obtain ⟨b, a, l, rfl, hs, hl, q⟩ := h
    refine ⟨_, (pss_cons (ps_if (pt_cmpR op_eq (pv 0) (pe_cst T.c_SHORT_NUMBER) (nomark _)) (pss_one (ps_ret (pe_op op_mul (pe_callD (def_signed T) (hr.mono (by decide)) rfl (pa_cons (pv 1) pa_nil)) (pe_cst T.c_ONE)))) pss_nil) (pss_cons (ps_if (pt_cmpR op_le (pv 0) pe_int (nomark _)) (pss_one (ps_ret (pe_op op_mul (pe_op op_sub (pv 0) pe_int) (pe_cst T.c_ONE)))) pss_nil) (pss_cons (ps_if (pt_cmpR op_le (pv 0) pe_int (nomark _)) (pss_one (ps_ret (pe_op op_mul (pe_op op_add (pe_op op_add (pe_op op_mul (pe_op op_sub (pv 0) pe_int) pe_int) (pe_ix ix_list (pv 1) pe_int (fun _ _ => rfl))) pe_int) (pe_cst T.c_ONE)))) pss_nil) (pss_cons (ps_if (pt_cmpR op_le (pv 0) pe_int (nomark _)) (pss_one (ps_ret (pe_op op_mul (pe_op op_sub (pe_op op_sub (pe_op op_mul (pe_un un_neg (pe_op op_sub (pv 0) pe_int)) pe_int) (pe_ix ix_list (pv 1) pe_int (fun _ _ => rfl))) pe_int) (pe_cst T.c_ONE)))) pss_nil) (pss_one (ps_ret (pe_callD (def_signed T) (hr.mono (by decide)) rfl (pa_cons (pv 1) pa_nil)))))))), ?_⟩
    have fin : ∀ (z : Int) (H' : Hp), numOf b l = z → Same H H' → Q (.int z) H' := fun z H' e s => e ▸ q H' s
    unfold nBehind at hl
    repeat walk_at "r1"
    refine iteD (fun h1 => ?_) (fun h1 => ?_)
    · rw [if_pos h1] at hl
      repeat walk_at "r1"
      refine ⟨a, l, rfl, hs, by omega, fun H' s => ?_⟩
      repeat walk_at "r1"
      exact fin _ _ (by unfold numOf; rw [if_pos h1]) s
    rw [if_neg h1] at hl
    repeat walk_at "r1"
    refine iteD (fun h2 => ?_) (fun h2 => ?_)
    · repeat walk_at "r1"
      exact fin _ _ (by unfold numOf; rw [if_neg h1, if_pos h2]) (Same.refl _)
    rw [if_neg h2] at hl
    repeat walk_at "r1"
    refine iteD (fun h3 => ?_) (fun h3 => ?_)
    · rw [if_pos (by omega)] at hl
      have hl : l.length = 1 := hl
      repeat walk_at "r1"
      exact fin _ _ (by unfold numOf; rw [if_neg h1, if_neg h2, if_pos h3, headD_getD]) (Same.refl _)
    repeat walk_at "r1"
    refine iteD (fun h4 => ?_) (fun h4 => ?_)
    · rw [if_pos (by omega)] at hl
      have hl : l.length = 1 := hl
      repeat walk_at "r1"
      exact fin _ _ (by unfold numOf; rw [if_neg h1, if_neg h2, if_neg h3, if_pos h4, headD_getD]) (Same.refl _)
    rw [if_neg h4] at hl
    repeat walk_at "r1"
    refine ⟨a, l, rfl, hs, by omega, fun H' s => ?_⟩
    exact fin _ _ (by unfold numOf; rw [if_neg h1, if_neg h2, if_neg h3, if_neg h4]) s
section
variable {P : Program} {w : World} {K : PySem.W.Frag} {mg : Str → Option Value} {CR CS : Addr} {H : Hp} {a dx : Addr} {A : Flds} {Q : VK} {N : Hp → Prop} {σ : St} {tb : TE}
def FlB (C : Addr) (f : Str) (a : Addr) (z : V) (H3 : Hp) (Q : Hp → Prop) : Prop := ∃ dx' fs', H3 a = some (.ins C dx' fs') ∧ fs'.length < 1000 ∧ Q (upd H3 a (.ins C dx' (putF f z fs')))
theorem fg_code (T : Txt P w K mg CR CS) (h : H a = some (.ins CR dx (flds A))) (q : Q (.ref A.code) H) : Fl K "code" (.ref a) H Q := ⟨a, CR, dx, _, _, rfl, h, T.clR, T.nR_code, get_code A, q⟩
theorem fs_code {z : Addr} (T : Txt P w K mg CR CS) (h : H a = some (.ins CR dx (flds A))) (q : N (upd H a (.ins CR dx (flds { A with code := z })))) : FlS K "code" (.ref z) (.ref a) H N := ⟨a, CR, dx, _, rfl, h, T.clR, T.nR_code, flds_len A, by rw [put_code]; exact q⟩
theorem fg_pc (T : Txt P w K mg CR CS) (h : H a = some (.ins CR dx (flds A))) (q : Q (.int A.pc) H) : Fl K "at" (.ref a) H Q := ⟨a, CR, dx, _, _, rfl, h, T.clR, T.nR_at, get_pc A, q⟩
theorem fs_pc {z : Int} (T : Txt P w K mg CR CS) (h : H a = some (.ins CR dx (flds A))) (q : N (upd H a (.ins CR dx (flds { A with pc := z })))) : FlS K "at" (.int z) (.ref a) H N := ⟨a, CR, dx, _, rfl, h, T.clR, T.nR_at, flds_len A, by rw [put_pc]; exact q⟩
theorem fg_callers (T : Txt P w K mg CR CS) (h : H a = some (.ins CR dx (flds A))) (q : Q (.ref A.callers) H) : Fl K "callers" (.ref a) H Q := ⟨a, CR, dx, _, _, rfl, h, T.clR, T.nR_callers, get_callers A, q⟩
theorem fs_callers {z : Addr} (T : Txt P w K mg CR CS) (h : H a = some (.ins CR dx (flds A))) (q : N (upd H a (.ins CR dx (flds { A with callers := z })))) : FlS K "callers" (.ref z) (.ref a) H N := ⟨a, CR, dx, _, rfl, h, T.clR, T.nR_callers, flds_len A, by rw [put_callers]; exact q⟩
theorem fg_own (T : Txt P w K mg CR CS) (h : H a = some (.ins CR dx (flds A))) (q : Q (.ref A.own) H) : Fl K "own" (.ref a) H Q := ⟨a, CR, dx, _, _, rfl, h, T.clR, T.nR_own, get_own A, q⟩
theorem fs_own {z : Addr} (T : Txt P w K mg CR CS) (h : H a = some (.ins CR dx (flds A))) (q : N (upd H a (.ins CR dx (flds { A with own := z })))) : FlS K "own" (.ref z) (.ref a) H N := ⟨a, CR, dx, _, rfl, h, T.clR, T.nR_own, flds_len A, by rw [put_own]; exact q⟩
theorem fg_common (T : Txt P w K mg CR CS) (h : H a = some (.ins CR dx (flds A))) (q : Q (.ref A.common) H) : Fl K "common" (.ref a) H Q := ⟨a, CR, dx, _, _, rfl, h, T.clR, T.nR_common, get_common A, q⟩
theorem fs_common {z : Addr} (T : Txt P w K mg CR CS) (h : H a = some (.ins CR dx (flds A))) (q : N (upd H a (.ins CR dx (flds { A with common := z })))) : FlS K "common" (.ref z) (.ref a) H N := ⟨a, CR, dx, _, rfl, h, T.clR, T.nR_common, flds_len A, by rw [put_common]; exact q⟩
theorem fg_most (T : Txt P w K mg CR CS) (h : H a = some (.ins CR dx (flds A))) (q : Q (.int A.most) H) : Fl K "most" (.ref a) H Q := ⟨a, CR, dx, _, _, rfl, h, T.clR, T.nR_most, get_most A, q⟩
theorem fs_most {z : Int} (T : Txt P w K mg CR CS) (h : H a = some (.ins CR dx (flds A))) (q : N (upd H a (.ins CR dx (flds { A with most := z })))) : FlS K "most" (.int z) (.ref a) H N := ⟨a, CR, dx, _, rfl, h, T.clR, T.nR_most, flds_len A, by rw [put_most]; exact q⟩
theorem fg_stack (T : Txt P w K mg CR CS) (h : H a = some (.ins CR dx (flds A))) (q : Q (.ref A.stack) H) : Fl K "stack" (.ref a) H Q := ⟨a, CR, dx, _, _, rfl, h, T.clR, T.nR_stack, get_stack A, q⟩
theorem fs_stack {z : Addr} (T : Txt P w K mg CR CS) (h : H a = some (.ins CR dx (flds A))) (q : N (upd H a (.ins CR dx (flds { A with stack := z })))) : FlS K "stack" (.ref z) (.ref a) H N := ⟨a, CR, dx, _, rfl, h, T.clR, T.nR_stack, flds_len A, by rw [put_stack]; exact q⟩
theorem fg_cells (T : Txt P w K mg CR CS) (h : H a = some (.ins CR dx (flds A))) (q : Q (.ref A.cells) H) : Fl K "cells" (.ref a) H Q := ⟨a, CR, dx, _, _, rfl, h, T.clR, T.nR_cells, get_cells A, q⟩
theorem fs_cells {z : Addr} (T : Txt P w K mg CR CS) (h : H a = some (.ins CR dx (flds A))) (q : N (upd H a (.ins CR dx (flds { A with cells := z })))) : FlS K "cells" (.ref z) (.ref a) H N := ⟨a, CR, dx, _, rfl, h, T.clR, T.nR_cells, flds_len A, by rw [put_cells]; exact q⟩
theorem fg_width (T : Txt P w K mg CR CS) (h : H a = some (.ins CR dx (flds A))) (q : Q (.int A.width) H) : Fl K "width" (.ref a) H Q := ⟨a, CR, dx, _, _, rfl, h, T.clR, T.nR_width, get_width A, q⟩
theorem fs_width {z : Int} (T : Txt P w K mg CR CS) (h : H a = some (.ins CR dx (flds A))) (q : N (upd H a (.ins CR dx (flds { A with width := z })))) : FlS K "width" (.int z) (.ref a) H N := ⟨a, CR, dx, _, rfl, h, T.clR, T.nR_width, flds_len A, by rw [put_width]; exact q⟩
theorem fg_width_due (T : Txt P w K mg CR CS) (h : H a = some (.ins CR dx (flds A))) (q : Q (.bl A.width_due) H) : Fl K "width_due" (.ref a) H Q := ⟨a, CR, dx, _, _, rfl, h, T.clR, T.nR_width_due, get_width_due A, q⟩
theorem fs_width_due {z : Bool} (T : Txt P w K mg CR CS) (h : H a = some (.ins CR dx (flds A))) (q : N (upd H a (.ins CR dx (flds { A with width_due := z })))) : FlS K "width_due" (.bl z) (.ref a) H N := ⟨a, CR, dx, _, rfl, h, T.clR, T.nR_width_due, flds_len A, by rw [put_width_due]; exact q⟩
theorem fg_hints (T : Txt P w K mg CR CS) (h : H a = some (.ins CR dx (flds A))) (q : Q (.int A.hints) H) : Fl K "hints" (.ref a) H Q := ⟨a, CR, dx, _, _, rfl, h, T.clR, T.nR_hints, get_hints A, q⟩
theorem fs_hints {z : Int} (T : Txt P w K mg CR CS) (h : H a = some (.ins CR dx (flds A))) (q : N (upd H a (.ins CR dx (flds { A with hints := z })))) : FlS K "hints" (.int z) (.ref a) H N := ⟨a, CR, dx, _, rfl, h, T.clR, T.nR_hints, flds_len A, by rw [put_hints]; exact q⟩
theorem fg_operators (T : Txt P w K mg CR CS) (h : H a = some (.ins CR dx (flds A))) (q : Q (.int A.operators) H) : Fl K "operators" (.ref a) H Q := ⟨a, CR, dx, _, _, rfl, h, T.clR, T.nR_operators, get_operators A, q⟩
theorem fs_operators {z : Int} (T : Txt P w K mg CR CS) (h : H a = some (.ins CR dx (flds A))) (q : N (upd H a (.ins CR dx (flds { A with operators := z })))) : FlS K "operators" (.int z) (.ref a) H N := ⟨a, CR, dx, _, rfl, h, T.clR, T.nR_operators, flds_len A, by rw [put_operators]; exact q⟩
theorem fg_x (T : Txt P w K mg CR CS) (h : H a = some (.ins CR dx (flds A))) (q : Q (.int A.x) H) : Fl K "x" (.ref a) H Q := ⟨a, CR, dx, _, _, rfl, h, T.clR, T.nR_x, get_x A, q⟩
theorem fs_x {z : Int} (T : Txt P w K mg CR CS) (h : H a = some (.ins CR dx (flds A))) (q : N (upd H a (.ins CR dx (flds { A with x := z })))) : FlS K "x" (.int z) (.ref a) H N := ⟨a, CR, dx, _, rfl, h, T.clR, T.nR_x, flds_len A, by rw [put_x]; exact q⟩
theorem fg_y (T : Txt P w K mg CR CS) (h : H a = some (.ins CR dx (flds A))) (q : Q (.int A.y) H) : Fl K "y" (.ref a) H Q := ⟨a, CR, dx, _, _, rfl, h, T.clR, T.nR_y, get_y A, q⟩
theorem fs_y {z : Int} (T : Txt P w K mg CR CS) (h : H a = some (.ins CR dx (flds A))) (q : N (upd H a (.ins CR dx (flds { A with y := z })))) : FlS K "y" (.int z) (.ref a) H N := ⟨a, CR, dx, _, rfl, h, T.clR, T.nR_y, flds_len A, by rw [put_y]; exact q⟩
theorem fg_begun (T : Txt P w K mg CR CS) (h : H a = some (.ins CR dx (flds A))) (q : Q (.bl A.begun) H) : Fl K "begun" (.ref a) H Q := ⟨a, CR, dx, _, _, rfl, h, T.clR, T.nR_begun, get_begun A, q⟩
theorem fs_begun {z : Bool} (T : Txt P w K mg CR CS) (h : H a = some (.ins CR dx (flds A))) (q : N (upd H a (.ins CR dx (flds { A with begun := z })))) : FlS K "begun" (.bl z) (.ref a) H N := ⟨a, CR, dx, _, rfl, h, T.clR, T.nR_begun, flds_len A, by rw [put_begun]; exact q⟩
theorem fg_drawn (T : Txt P w K mg CR CS) (h : H a = some (.ins CR dx (flds A))) (q : Q (.ref A.drawn) H) : Fl K "drawn" (.ref a) H Q := ⟨a, CR, dx, _, _, rfl, h, T.clR, T.nR_drawn, get_drawn A, q⟩
theorem fs_drawn {z : Addr} (T : Txt P w K mg CR CS) (h : H a = some (.ins CR dx (flds A))) (q : N (upd H a (.ins CR dx (flds { A with drawn := z })))) : FlS K "drawn" (.ref z) (.ref a) H N := ⟨a, CR, dx, _, rfl, h, T.clR, T.nR_drawn, flds_len A, by rw [put_drawn]; exact q⟩
theorem fg_ended (T : Txt P w K mg CR CS) (h : H a = some (.ins CR dx (flds A))) (q : Q (.bl A.ended) H) : Fl K "ended" (.ref a) H Q := ⟨a, CR, dx, _, _, rfl, h, T.clR, T.nR_ended, get_ended A, q⟩
theorem fs_ended {z : Bool} (T : Txt P w K mg CR CS) (h : H a = some (.ins CR dx (flds A))) (q : N (upd H a (.ins CR dx (flds { A with ended := z })))) : FlS K "ended" (.bl z) (.ref a) H N := ⟨a, CR, dx, _, rfl, h, T.clR, T.nR_ended, flds_len A, by rw [put_ended]; exact q⟩
theorem fa_pc (T : Txt P w K mg CR CS) (h : H a = some (.ins CR dx (flds A))) (q : tb σ H fun y H2 => rAdd (.int A.pc) y H2 fun z H3 => FlB CR "at" a z H3 N) : FlA K "at" tb rAdd σ (.ref a) H N := ⟨a, CR, dx, _, _, rfl, h, T.clR, T.nR_at, get_pc A, q⟩
theorem fb_pc {z : Int} (h : H a = some (.ins CR dx (flds A))) (q : N (upd H a (.ins CR dx (flds { A with pc := z })))) : FlB CR "at" a (.int z) H N := ⟨dx, _, h, flds_len A, by rw [put_pc]; exact q⟩
theorem fa_hints (T : Txt P w K mg CR CS) (h : H a = some (.ins CR dx (flds A))) (q : tb σ H fun y H2 => rAdd (.int A.hints) y H2 fun z H3 => FlB CR "hints" a z H3 N) : FlA K "hints" tb rAdd σ (.ref a) H N := ⟨a, CR, dx, _, _, rfl, h, T.clR, T.nR_hints, get_hints A, q⟩
theorem fb_hints {z : Int} (h : H a = some (.ins CR dx (flds A))) (q : N (upd H a (.ins CR dx (flds { A with hints := z })))) : FlB CR "hints" a (.int z) H N := ⟨dx, _, h, flds_len A, by rw [put_hints]; exact q⟩
theorem fa_operators (T : Txt P w K mg CR CS) (h : H a = some (.ins CR dx (flds A))) (q : tb σ H fun y H2 => rAdd (.int A.operators) y H2 fun z H3 => FlB CR "operators" a z H3 N) : FlA K "operators" tb rAdd σ (.ref a) H N := ⟨a, CR, dx, _, _, rfl, h, T.clR, T.nR_operators, get_operators A, q⟩
theorem fb_operators {z : Int} (h : H a = some (.ins CR dx (flds A))) (q : N (upd H a (.ins CR dx (flds { A with operators := z })))) : FlB CR "operators" a (.int z) H N := ⟨dx, _, h, flds_len A, by rw [put_operators]; exact q⟩
def flS (x y : Addr) : List (Str × V) := [("own", .ref x), ("common", .ref y)]
theorem gS_own {x y : Addr} (T : Txt P w K mg CR CS) (h : H a = some (.ins CS dx (flS x y))) (q : Q (.ref x) H) : Fl K "own" (.ref a) H Q := ⟨a, CS, dx, _, _, rfl, h, T.clS, T.nS_own, by rfl, q⟩
theorem gS_common {x y : Addr} (T : Txt P w K mg CR CS) (h : H a = some (.ins CS dx (flS x y))) (q : Q (.ref y) H) : Fl K "common" (.ref a) H Q := ⟨a, CS, dx, _, _, rfl, h, T.clS, T.nS_common, by rfl, q⟩
theorem pS_own {x y z : Addr} (T : Txt P w K mg CR CS) (h : H a = some (.ins CS dx (flS x y))) (q : N (upd H a (.ins CS dx (flS z y)))) : FlS K "own" (.ref z) (.ref a) H N := ⟨a, CS, dx, _, rfl, h, T.clS, T.nS_own, by show 2 < 1000; decide, q⟩
theorem pS_common {x y z : Addr} (T : Txt P w K mg CR CS) (h : H a = some (.ins CS dx (flS x y))) (q : N (upd H a (.ins CS dx (flS x z)))) : FlS K "common" (.ref z) (.ref a) H N := ⟨a, CS, dx, _, rfl, h, T.clS, T.nS_common, by show 2 < 1000; decide, q⟩
theorem rd_sp1 {g : Int → V} {i : Int} {E : XK} (h : Q (g i) H) : sp1 g [.int i] H Q E := ⟨i, rfl, h⟩
end
theorem keepN {H : Hp} {p b : Addr} {o u : HO} (h : H b = some u) (hp : H p = none) : upd H p o b = some u := (upd_ne (ne_of_none h hp)).trans h
theorem ty_list {H : Hp} {l : Addr} {xs : List V} (h : H l = some (.lst xs)) : tyV K "list" (.ref l) H := .inl ⟨rfl, xs, SqL.of h⟩
theorem rd_gsub {to ti : TE} {t : TSet} {v : V} {σ : St} {H : Hp} {N : St → Hp → Prop} (h : to σ H fun o H1 => ti σ H1 fun i H2 => t o i v H2 fun H3 => N σ H3) : gSub to ti t v σ H N := h
theorem ints_app (a b : List Int) : izs (a ++ b) = izs a ++ izs b := List.map_append
theorem ints_one (z : Int) : izs [z] = [V.int z] := rfl
theorem rd_popI {H : Hp} {l : Addr} {s : List Int} {a : Int} {Q : VK} (e : H l = some (.lst (izs (s ++ [a])))) (h : Q (.int a) (upd H l (.lst (izs s)))) : rPop (.ref l) [] H Q := by
  have e1 : (izs (s ++ [a])).dropLast = izs s := by rw [ints_app, ints_one, List.dropLast_concat]
  refine rd_pop e ?_ (by rw [e1]; exact h)
  rw [ints_app, ints_one, List.length_append, List.length_singleton, Nat.add_sub_cancel, List.getElem?_append_right (Nat.le_refl _), Nat.sub_self]; rfl
theorem rd_appI {H : Hp} {l : Addr} {s : List Int} {a : Int} {Q : VK} (e : H l = some (.lst (izs s))) (hz : s.length < 1000000) (h : Q .non (upd H l (.lst (izs (s ++ [a]))))) : rAppend (.ref l) [.int a] H Q :=
  rd_append e (by rw [ints_len]; have : (sizeLine : Nat) = 16777216 := sizeLine_eq; omega) (by rw [ints_app] at h; exact h)
theorem rd_setL {H : Hp} {p : Addr} {xs : List V} {k : Int} {j : Nat} {v : V} {N : Hp → Prop} (e : H p = some (.lst xs)) (hj : ixN xs.length k = some j) (h : N (upd H p (.lst (xs.set j v)))) : rSetL (.ref p) (.int k) v H N := ⟨p, xs, k, j, rfl, rfl, e, hj, h⟩
theorem ixN_of {n : Nat} {i : Int} (h0 : 0 ≤ i) (h1 : i < n) : ixN n i = some i.toNat := by unfold ixN; rw [if_pos h0, if_pos h1]
theorem at_of0 {l : List Int} {i : Int} (h0 : 0 ≤ i) (h1 : i < l.length) : atI (izs l) i = some (.int (l.getD i.toNat 0)) := by
  have e := at_intsD (l := l) (i := i.toNat) (by omega)
  rw [Int.toNat_of_nonneg h0] at e
  exact e
theorem ints_set (l : List Int) (j : Nat) (z : Int) : (izs l).set j (.int z) = izs (l.set j z) := by unfold izs; rw [List.map_set]
theorem sIx_pos {n d : Nat} {v : Int} (h : 0 ≤ v) : HT.sIx n d (some v) = min v.toNat n := by unfold HT.sIx; simp only; rw [if_neg (by omega)]
theorem sIx_neg {n d : Nat} {v : Int} (h : v < 0) : HT.sIx n d (some v) = (v + n).toNat := by unfold HT.sIx; simp only; rw [if_pos h]
theorem cut_to {l : List Int} {k : Int} (h : 0 ≤ k) : cutV (izs l) none (some k) = izs (l.take k.toNat) := by
  rw [cut_ints, HT.sIx_none, sIx_pos h]
  congr 1
  rw [List.drop_zero, Nat.sub_zero, List.take_eq_take_iff]; omega
theorem cut_from {l : List Int} {k : Int} (h : 0 ≤ k) : cutV (izs l) (some k) none = izs (l.drop k.toNat) := by
  rw [cut_ints, HT.sIx_none, sIx_pos h]
  congr 1
  by_cases c : k.toNat ≤ l.length
  · rw [Nat.min_eq_left c, List.take_of_length_le (by rw [List.length_drop]; omega)]
  · rw [Nat.min_eq_right (by omega), List.drop_length, List.drop_eq_nil_of_le (by omega)]; simp
theorem cut_mid {l : List Int} {i j : Int} (h : 0 ≤ i) (h2 : i ≤ j) (h3 : j ≤ l.length) : cutV (izs l) (some i) (some j) = izs ((l.drop i.toNat).take (j.toNat - i.toNat)) := by
  rw [cut_ints, sIx_pos h, sIx_pos (by omega), Nat.min_eq_left (by omega), Nat.min_eq_left (by omega)]
theorem cut_toN {l : List Int} {k : Int} (h : k < 0) : cutV (izs l) none (some k) = izs (l.take (k + l.length).toNat) := by
  rw [cut_ints, HT.sIx_none, sIx_neg h, List.drop_zero, Nat.sub_zero]
theorem cut_fromN {l : List Int} {k : Int} (h : k < 0) : cutV (izs l) (some k) none = izs (l.drop (k + l.length).toNat) := by
  rw [cut_ints, HT.sIx_none, sIx_neg h, List.take_of_length_le (by rw [List.length_drop]; omega)]
structure Okx (t : Sa20.Subrs) (most : Int) (q : Sa20.Run) : Prop where
  ok : Okq most.toNat q
  m0 : 0 ≤ most
  m1 : most ≤ 1048576
  pc : ∀ f rest, q.frames = f :: rest → f.pc ≤ f.code.length
  so : t.own.length ≤ 2048
  sc : t.common.length ≤ 2048
def spDeed (K : PySem.W.Frag) (CR : Addr) (k : Nat) : Sp := fun vs H Q _ => ∃ HB H0 t most r A dx q, vs = [.ref r] ∧ Rep K CR HB H0 t most H r A dx q false ∧ Okx t most q ∧ Out K CR HB H0 t most r (Sa20.operate t most.toNat k q) Q
def spPush (K : PySem.W.Frag) (CR : Addr) : Sp := fun vs H Q _ => ∃ HB H0 t most r A dx q z, vs = [.ref r, .int z] ∧ Rep K CR HB H0 t most H r A dx q false ∧ q.stack.length ≤ 48 ∧
  Out K CR HB H0 t most r (if 48 ≤ q.stack.length then .bad (-2) else .on { q with stack := q.stack ++ [z] }) Q
theorem Rep.more {HB H0 H : Hp} {t : Sa20.Subrs} {most : Int} {r : Addr} {A : Flds} {dx : Addr} {q : Sa20.Run} {e : Bool} (R : Rep K CR HB H0 t most H r A dx q e) {a : Addr} {o : HO} (ha : H a = some o) (h0 : H0 a = none)
    (n : ¬ (a = r ∨ a = A.stack ∨ a = A.cells ∨ a = A.drawn ∨ a = A.callers)) : Rep K CR HB (upd H0 a o) t most H r A dx q e := by
  have s0 : Same H0 (upd H0 a o) := Same.new h0
  have fr : ∀ b, H0 b = none → b ≠ a → upd H0 a o b = none := fun b h k => (upd_ne k).trans h
  refine ⟨R.b0.trans s0, fun b u h => ?_, R.ins, fr _ R.fr fun k => n (.inl k.symm), fr _ R.fs fun k => n (.inr (.inl k.symm)), fr _ R.fc fun k => n (.inr (.inr (.inl k.symm))), fr _ R.fd fun k => n (.inr (.inr (.inr (.inl k.symm)))), fr _ R.fk fun k => n (.inr (.inr (.inr (.inr k.symm)))),
    R.st, R.ce, R.dr, R.ca, R.co, R.own, R.common, R.most_, R.wi, R.wd, R.hi, R.op, R.x, R.y, R.bg, R.en, R.d1, R.d2, R.d3, R.d4, R.d5, R.d6⟩
  by_cases k : b = a
  · subst k
    rw [upd_same] at h
    cases h
    exact ha
  · rw [upd_ne k] at h
    exact R.same b u h
theorem Rep.kaddr {HB H0 H : Hp} {t : Sa20.Subrs} {most : Int} {r : Addr} {A : Flds} {dx : Addr} {q : Sa20.Run} {e : Bool} (R : Rep K CR HB H0 t most H r A dx q e) : ∃ xs, H A.callers = some (.lst xs) := by
  obtain ⟨ts, h, _⟩ := R.ca
  exact ⟨_, h⟩
theorem Rep.notOwn {HB H0 H : Hp} {t : Sa20.Subrs} {most : Int} {r : Addr} {A : Flds} {dx : Addr} {q : Sa20.Run} {e : Bool} (R : Rep K CR HB H0 t most H r A dx q e) {p : Addr} (h : H p = none) : ¬ (p = r ∨ p = A.stack ∨ p = A.cells ∨ p = A.drawn ∨ p = A.callers) := by
  obtain ⟨xs, hk⟩ := R.kaddr
  rintro (k | k | k | k | k) <;> subst k
  · rw [R.ins] at h; cases h
  · rw [R.st] at h; cases h
  · rw [R.ce] at h; cases h
  · rw [R.dr] at h; cases h
  · rw [hk] at h; cases h
theorem Rep.take {HB H0 H : Hp} {t : Sa20.Subrs} {most : Int} {r : Addr} {A : Flds} {dx : Addr} {q : Sa20.Run} {e : Bool} (R : Rep K CR HB H0 t most H r A dx q e) {p : Addr} (hp : H p = none) :
    Rep K CR HB (upd H0 A.stack (.lst (izs q.stack))) t most (upd (upd H p (.lst [])) r (.ins CR dx (flds { A with stack := p }))) r { A with stack := p } dx { q with stack := [] } e := by
  have n := R.notOwn hp
  have R1 : Rep K CR HB H0 t most (upd H p (.lst (izs []))) r A dx q e := R.lay hp
  have R2 := R1.newStack (p := p) (S := []) upd_same (R.same.free hp) (fun k => n (.inr (.inr (.inl k)))) (fun k => n (.inr (.inr (.inr (.inl k))))) (fun k => n (.inr (.inr (.inr (.inr k)))))
  obtain ⟨xs, hk⟩ := R.kaddr
  refine R2.more (a := A.stack) ?_ R.fs ?_
  · rw [upd_ne (ne_ll R1.ins R1.st)]
    exact keepN R.st hp
  · rintro (k | k | k | k | k)
    · exact ne_ll R.ins R.st k
    · exact n (.inr (.inl k.symm))
    · exact R.d1 k
    · exact R.d2 k
    · exact R.d3 k
def spTake (K : PySem.W.Frag) (CR : Addr) : Sp := fun vs H Q _ => ∃ HB H0 t most r A dx q, vs = [.ref r] ∧ Rep K CR HB H0 t most H r A dx q false ∧
  ∀ H' A' H1 a, Same H0 H1 → H1 a = some (.lst (izs q.stack)) → Rep K CR HB H1 t most H' r A' dx { q with stack := [] } false → Q (.ref a) H'
def spWidth (P : Program) (w : World) (K : PySem.W.Frag) (mg : Str → Option Value) (base : Heap) (CR : Addr) : Sp := fun vs H Q _ => ∃ g : Int → Bool, ∃ f HB H0 t most r A dx q, vs = [.ref r, .ref f] ∧ FV P w K mg base f 1 ["count"] (sp1 fun i => .bl (g i)) ∧ g (-1) = false ∧
  Rep K CR HB H0 t most H r A dx q false ∧ match Sa20.without q (fun n => g (n : Int)) with
    | none => ∀ H', Same H0 H' → Q .non H'
    | some x => ∀ H' A' H1 a, Same H0 H1 → H1 a = some (.lst (izs x.1)) → Rep K CR HB H1 t most H' r A' dx x.2 false → Q (.ref a) H'
def spPut (K : PySem.W.Frag) (CR : Addr) : Sp := fun vs H Q _ => ∃ HB H0 t most r A dx q e a l, vs = [.ref r, .ref a] ∧ Rep K CR HB H0 t most H r A dx q e ∧ 0 ≤ most ∧ most ≤ 1048576 ∧ H a = some (.lst (izs l)) ∧ match Sa20.written most.toNat q l with
    | none => ∀ H', Same H0 H' → Q (.int (-9)) H'
    | some u => ∀ H' A' dx', Rep K CR HB H0 t most H' r A' dx' u e → Q (.int 0) H'
local macro_rules | `(tactic| walk_at "sq") => `(tactic| first | assumption | exact SqL.of (by assumption) | exact SqL.of upd_same | ((refine' SqL.of ?hh); (case hh => walk_at "hp")))
local macro_rules | `(tactic| walk_at "ix") => `(tactic| first | exact at_ints (i := 0) rfl | exact at_ints (i := 1) rfl | exact at_ints (i := 2) rfl | exact at_ints (i := 3) rfl | exact at_ints (i := 4) rfl | exact at_ints (i := 5) rfl | exact at_ints (i := 6) rfl | exact at_ints (i := 7) rfl | exact at_ints (i := 8) rfl | exact at_ints (i := 9) rfl | exact at_ints (i := 10) rfl | exact at_intsD (i := 0) (by omega) | exact at_intsD (i := 1) (by omega) | exact at_intsD (i := 2) (by omega) | exact at_intsD (i := 3) (by omega) | assumption)
local macro_rules | `(tactic| walk_at "hp") => `(tactic| first | assumption | exact upd_same | ((refine' keepN ?ha ?hb); (case ha => walk_at "hp"); (case hb => assumption)))
local macro_rules | `(tactic| walk_at "ins") => `(tactic| first | assumption | exact upd_same)
local macro_rules | `(tactic| walk_at "r2") => `(tactic| first
  | walk_at "r1" | (with_reducible refine rd_sp1 ?_) | ((with_reducible refine' rd_listR ?hs ?_); (case hs => walk_at "sq")) | (with_reducible refine rd_gsub ?_)
  | ((with_reducible refine' fg_stack ?T ?h ?_); (case T => assumption); (case h => walk_at "ins"))
  | ((with_reducible refine' fg_code ?T ?h ?_); (case T => assumption); (case h => walk_at "ins"))
  | ((with_reducible refine' fg_pc ?T ?h ?_); (case T => assumption); (case h => walk_at "ins"))
  | ((with_reducible refine' fg_drawn ?T ?h ?_); (case T => assumption); (case h => walk_at "ins"))
  | ((with_reducible refine' fg_cells ?T ?h ?_); (case T => assumption); (case h => walk_at "ins"))
  | ((with_reducible refine' fg_begun ?T ?h ?_); (case T => assumption); (case h => walk_at "ins"))
  | ((with_reducible refine' fg_callers ?T ?h ?_); (case T => assumption); (case h => walk_at "ins"))
  | ((with_reducible refine' fg_most ?T ?h ?_); (case T => assumption); (case h => walk_at "ins"))
  | ((with_reducible refine' fg_own ?T ?h ?_); (case T => assumption); (case h => walk_at "ins"))
  | ((with_reducible refine' fg_common ?T ?h ?_); (case T => assumption); (case h => walk_at "ins"))
  | ((with_reducible refine' fg_hints ?T ?h ?_); (case T => assumption); (case h => walk_at "ins"))
  | ((with_reducible refine' fg_x ?T ?h ?_); (case T => assumption); (case h => walk_at "ins"))
  | ((with_reducible refine' fg_y ?T ?h ?_); (case T => assumption); (case h => walk_at "ins"))
  | ((with_reducible refine' fg_operators ?T ?h ?_); (case T => assumption); (case h => walk_at "ins"))
  | ((with_reducible refine' fg_width_due ?T ?h ?_); (case T => assumption); (case h => walk_at "ins"))
  | ((with_reducible refine' fg_width ?T ?h ?_); (case T => assumption); (case h => walk_at "ins"))
  | ((with_reducible refine' fg_ended ?T ?h ?_); (case T => assumption); (case h => walk_at "ins"))
  | ((with_reducible refine' fs_stack ?T ?h ?_); (case T => assumption); (case h => walk_at "ins"))
  | ((with_reducible refine' fs_code ?T ?h ?_); (case T => assumption); (case h => walk_at "ins"))
  | ((with_reducible refine' fs_pc ?T ?h ?_); (case T => assumption); (case h => walk_at "ins"))
  | ((with_reducible refine' fs_drawn ?T ?h ?_); (case T => assumption); (case h => walk_at "ins"))
  | ((with_reducible refine' fs_cells ?T ?h ?_); (case T => assumption); (case h => walk_at "ins"))
  | ((with_reducible refine' fs_begun ?T ?h ?_); (case T => assumption); (case h => walk_at "ins"))
  | ((with_reducible refine' fs_callers ?T ?h ?_); (case T => assumption); (case h => walk_at "ins"))
  | ((with_reducible refine' fs_most ?T ?h ?_); (case T => assumption); (case h => walk_at "ins"))
  | ((with_reducible refine' fs_own ?T ?h ?_); (case T => assumption); (case h => walk_at "ins"))
  | ((with_reducible refine' fs_common ?T ?h ?_); (case T => assumption); (case h => walk_at "ins"))
  | ((with_reducible refine' fs_hints ?T ?h ?_); (case T => assumption); (case h => walk_at "ins"))
  | ((with_reducible refine' fs_x ?T ?h ?_); (case T => assumption); (case h => walk_at "ins"))
  | ((with_reducible refine' fs_y ?T ?h ?_); (case T => assumption); (case h => walk_at "ins"))
  | ((with_reducible refine' fs_operators ?T ?h ?_); (case T => assumption); (case h => walk_at "ins"))
  | ((with_reducible refine' fs_width_due ?T ?h ?_); (case T => assumption); (case h => walk_at "ins"))
  | ((with_reducible refine' fs_width ?T ?h ?_); (case T => assumption); (case h => walk_at "ins"))
  | ((with_reducible refine' fs_ended ?T ?h ?_); (case T => assumption); (case h => walk_at "ins"))
  | ((with_reducible refine' fa_hints ?T ?h ?_); (case T => assumption); (case h => walk_at "ins"))
  | ((with_reducible refine' fb_hints ?h ?_); (case h => walk_at "ins"))
  | ((with_reducible refine' fa_operators ?T ?h ?_); (case T => assumption); (case h => walk_at "ins"))
  | ((with_reducible refine' fb_operators ?h ?_); (case h => walk_at "ins"))
  | ((with_reducible refine' fa_pc ?T ?h ?_); (case T => assumption); (case h => walk_at "ins"))
  | ((with_reducible refine' fb_pc ?h ?_); (case h => walk_at "ins"))
  | ((with_reducible refine' gS_own ?T ?h ?_); (case T => assumption); (case h => walk_at "ins"))
  | ((with_reducible refine' gS_common ?T ?h ?_); (case T => assumption); (case h => walk_at "ins"))
  | ((with_reducible refine' pS_own ?T ?h ?_); (case T => assumption); (case h => walk_at "ins"))
  | ((with_reducible refine' pS_common ?T ?h ?_); (case T => assumption); (case h => walk_at "ins")))
theorem def_push (T : Txt P w K mg CR CS) : Def P w K mg base "push" 1 ["run", "number"] (spPush K CR) := by
  refine T.f_push.mk sc_push (fun _ _ _ _ _ _ us hl => match us, hl with | [_, _], _ => rfl) (fun vs H Q E h => ?_) (fun f cdv A outer s H vs Q E hr h => ?_)
  · obtain ⟨HB, H0, t, most, r, A1, dx, q, z, rfl, R, hl, out⟩ := h; rfl
  · obtain ⟨HB, H0, t, most, r, A1, dx, q, z, rfl, R, hl, out⟩ := h
    have ri := R.ins
    have rs := R.st
    refine ⟨_, (pss_cons (ps_if (pt_cmpR op_ge (pe_callB call_lenR rfl T.b_len bt_len (pa_cons (pe_fld (pv 0) rfl) pa_nil)) (pe_cst T.c_MOST_ON_STACK) (nomark _)) (pss_one (ps_ret (pe_cst T.c_STACK_FULL))) pss_nil) (pss_cons (ps_expr (pe_bm PySem.F.plainAttrs_list PySem.F.slot_list_append PySem.F.type_list_append mt_append (pe_fld (pv 0) rfl) (pa_cons (pv 1) pa_nil))) (pss_one (ps_ret (pe_cst T.c_FINE))))), ?_⟩
    repeat walk_at "r2"
    refine iteD (fun h1 => ?_) (fun h1 => ?_)
    · rw [ints_len] at h1
      rw [if_pos (by omega)] at out
      repeat walk_at "r2"
      exact out H R.same
    · rw [ints_len] at h1
      rw [if_neg (by omega)] at out
      repeat walk_at "r2"
      refine ⟨ty_list rs, ?_⟩
      repeat walk_at "r2"
      refine rd_appI rs (by omega) ?_
      repeat walk_at "r2"
      exact out _ _ _ (R.stk _)
theorem def_take_all (T : Txt P w K mg CR CS) : Def P w K mg base "take_all" 1 ["run"] (spTake K CR) := by
  refine T.f_take_all.mk sc_take_all (fun _ _ _ _ _ _ us hl => match us, hl with | [_], _ => rfl) (fun vs H Q E h => ?_) (fun f cdv A outer s H vs Q E hr h => ?_)
  · obtain ⟨HB, H0, t, most, r, A1, dx, q, rfl, R, k⟩ := h; rfl
  · obtain ⟨HB, H0, t, most, r, A1, dx, q, rfl, R, k⟩ := h
    have ri := R.ins
    have rs := R.st
    refine ⟨_, (pss_cons (ps_set (i := 1) sc_take_all.nd rfl (Or.inl rfl) (pe_fld (pv 0) rfl)) (pss_cons (ps_fld (pv 0) (pe_lst pa_nil) rfl) (pss_one (ps_ret (pv 1))))), ?_⟩
    repeat walk_at "r2"
    refine ⟨Nat.zero_le _, fun p hp => ?_⟩
    have ri2 := keepN (o := .lst []) ri hp
    repeat walk_at "r2"
    exact k _ _ _ _ (Same.new R.fs) upd_same (R.take hp)
theorem def_put (T : Txt P w K mg CR CS) : Def P w K mg base "put" 1 ["run", "numbers"] (spPut K CR) := by
  refine T.f_put.mk sc_put (fun _ _ _ _ _ _ us hl => match us, hl with | [_, _], _ => rfl) (fun vs H Q E h => ?_) (fun f cdv A outer s H vs Q E hr h => ?_)
  · obtain ⟨HB, H0, t, most, r, A1, dx, q, e, a, l, rfl, R, m0, m1, ha, k⟩ := h; rfl
  · obtain ⟨HB, H0, t, most, r, A1, dx, q, e, a, l, rfl, R, m0, m1, ha, k⟩ := h
    have ri := R.ins
    have rs := R.st
    have rd := R.dr
    refine ⟨_, (pss_cons (ps_if (pt_cmpR op_gt (pe_op op_add (pe_callB call_lenR rfl T.b_len bt_len (pa_cons (pe_fld (pv 0) rfl) pa_nil)) (pe_callB call_lenR rfl T.b_len bt_len (pa_cons (pv 1) pa_nil))) (pe_fld (pv 0) rfl) (nomark _)) (pss_one (ps_ret (pe_cst T.c_TOO_MUCH_DRAWN))) pss_nil) (pss_cons (ps_expr (pe_bm PySem.F.plainAttrs_list PySem.F.slot_list_extend PySem.F.type_list_extend mt_extend (pe_fld (pv 0) rfl) (pa_cons (pv 1) pa_nil))) (pss_one (ps_ret (pe_cst T.c_FINE))))), ?_⟩
    repeat walk_at "r2"
    refine iteD (fun h1 => ?_) (fun h1 => ?_)
    · repeat walk_at "r2"
      rw [ints_len, ints_len, R.most_] at h1
      have e1 : Sa20.written most.toNat q l = none := by unfold Sa20.written; rw [if_pos (by omega)]
      rw [e1] at k
      exact k H R.same
    · rw [ints_len, ints_len, R.most_] at h1
      have e1 : Sa20.written most.toNat q l = some { q with out := q.out ++ l } := by unfold Sa20.written; rw [if_neg (by omega)]
      rw [e1] at k
      repeat walk_at "r2"
      refine ⟨ty_list rd, ?_⟩
      repeat walk_at "r2"
      refine rd_extend rd ha (by rw [ints_len, ints_len]; have : (sizeLine : Nat) = 16777216 := sizeLine_eq; omega) ?_
      repeat walk_at "r2"
      rw [← ints_app]
      exact k _ _ _ (R.drw _)
theorem def_take_with_width (T : Txt P w K mg CR CS) : Def P w K mg base "take_with_width" 2 ["run", "fits"] (spWidth P w K mg base CR) := by
  refine T.f_take_with_width.mk sc_take_with_width (fun _ _ _ _ _ _ us hl => match us, hl with | [_, _], _ => rfl) (fun vs H Q E h => ?_) (fun f cdv A outer s H vs Q E hr h => ?_)
  · obtain ⟨g, ff, HB, H0, t, most, r, A1, dx, q, rfl, F_fits, hg, R, k⟩ := h; rfl
  · obtain ⟨g, ff, HB, H0, t, most, r, A1, dx, q, rfl, F_fits, hg, R, k⟩ := h
    have ri := R.ins
    have rs := R.st
    refine ⟨_, (pss_cons (ps_set (i := 2) sc_take_with_width.nd rfl (Or.inl rfl) (pe_callD (def_take_all T) (hr.mono (by decide)) rfl (pa_cons (pv 0) pa_nil))) (pss_cons (ps_set (i := 3) sc_take_with_width.nd rfl (Or.inl rfl) (pe_fld (pv 0) rfl)) (pss_cons (ps_fld (pv 0) pe_bl rfl) (pss_cons (ps_if (pt_val (pe_callV 1 F_fits (hr.mono (by decide)) (pa_cons (pe_callB call_lenR rfl T.b_len bt_len (pa_cons (pv 2) pa_nil)) pa_nil))) (pss_one (ps_ret (pv 2))) pss_nil) (pss_cons (ps_if (PW.pt (pw_and (pt_val (pv 3)) (pw_and1 (pt_val (pe_callV 1 F_fits (hr.mono (by decide)) (pa_cons (pe_op op_sub (pe_callB call_lenR rfl T.b_len bt_len (pa_cons (pv 2) pa_nil)) pe_int) pa_nil)))))) (pss_cons (ps_fld (pv 0) (pe_ix ix_list (pv 2) pe_int (fun _ _ => rfl)) rfl) (pss_one (ps_ret (pe_slice sl_list (pv 2) (po_some pe_int) po_none)))) pss_nil) (pss_one (ps_ret pe_non))))))), ?_⟩
    repeat walk_at "r2"
    refine ⟨HB, H0, t, most, r, A1, dx, q, rfl, R, fun H1 A2 H2 a s1 ha R1 => ?_⟩
    have ri1 := R1.ins
    repeat walk_at "r2"
    have R2 : Rep K CR HB H2 t most (upd H1 r (.ins CR dx (flds { A2 with width_due := false }))) r { A2 with width_due := false } dx { q with stack := [], begun := true } false :=
      R1.setA rfl rfl rfl rfl rfl rfl rfl rfl R1.co rfl rfl rfl R1.wi rfl R1.hi R1.op R1.x R1.y R1.bg R1.en
    have ha2 := SqL.of (K := K) (R2.same _ _ ha)
    have hwd : A2.width_due = !q.begun := R1.wd
    repeat walk_at "r2"
    cases hg1 : g ((izs q.stack).length : Int) with
    | true =>
      rw [ints_len] at hg1
      have e : Sa20.without q (fun n => g (n : Int)) = some (q.stack, { q with stack := [], begun := true }) := by unfold Sa20.without; simp only; rw [if_pos hg1]
      rw [e] at k
      refine iteT ?_
      repeat walk_at "r2"
      exact k _ _ _ _ s1 ha R2
    | false =>
      rw [ints_len] at hg1
      refine iteF ?_
      repeat walk_at "r2"
      rw [hwd]
      cases hb : q.begun with
      | true =>
        have e : Sa20.without q (fun n => g (n : Int)) = none := by unfold Sa20.without; simp only; rw [if_neg (by rw [hg1]; exact Bool.false_ne_true), if_neg (by rw [hb]; rintro ⟨z, _⟩; cases z)]
        rw [e] at k
        refine iteF (iteF ?_)
        repeat walk_at "r2"
        exact k _ (s1.trans R2.same)
      | false =>
        refine iteT ?_
        repeat walk_at "r2"
        cases hg2 : g ((((izs q.stack).length : Nat) : Int) - 1) with
        | false =>
          rw [ints_len] at hg2
          have e : Sa20.without q (fun n => g (n : Int)) = none := by
            unfold Sa20.without; simp only
            rw [if_neg (by rw [hg1]; exact Bool.false_ne_true), if_neg]
            rintro ⟨_, h1, h2⟩
            rw [Int.natCast_sub h1] at h2
            rw [show ((1 : Nat) : Int) = 1 from rfl, hg2] at h2
            cases h2
          rw [e] at k
          refine iteF ?_
          repeat walk_at "r2"
          exact k _ (s1.trans R2.same)
        | true =>
          rw [ints_len] at hg2
          have h1 : 0 < q.stack.length := by
            refine Nat.pos_of_ne_zero fun z => ?_
            rw [z, show ((0 : Nat) : Int) - 1 = -1 from rfl, hg] at hg2
            cases hg2
          obtain ⟨z, st, hst⟩ : ∃ z st, q.stack = z :: st := by
            cases hq : q.stack with
            | nil => rw [hq] at h1; cases h1
            | cons z st => exact ⟨z, st, rfl⟩
          have e : Sa20.without q (fun n => g (n : Int)) = some (st, { q with stack := [], begun := true, width := some z }) := by
            unfold Sa20.without; simp only
            rw [if_neg (by rw [hg1]; exact Bool.false_ne_true), if_pos ⟨hb, h1, by rw [Int.natCast_sub h1]; exact hg2⟩, hst]; rfl
          rw [e] at k
          refine iteT ?_
          rw [hst] at ha2
          have ri2 := R2.ins
          repeat walk_at "r2"
          have R3 : Rep K CR HB H2 t most (upd (upd H1 r (.ins CR dx (flds { A2 with width_due := false }))) r (.ins CR dx (flds { A2 with width_due := false, width := z }))) r { A2 with width_due := false, width := z } dx { q with stack := [], begun := true, width := some z } false :=
            R2.setA rfl rfl rfl rfl rfl rfl rfl rfl R2.co rfl rfl rfl rfl rfl R2.hi R2.op R2.x R2.y R2.bg R2.en
          have ha3 : SqL K (upd (upd H1 r (.ins CR dx (flds { A2 with width_due := false }))) r (.ins CR dx (flds { A2 with width_due := false, width := z }))) a (izs (z :: st)) := by
            rw [← hst]; exact SqL.of (R3.same _ _ ha)
          repeat walk_at "r2"
          intro p hp
          rw [cut_one]
          refine k _ _ _ p (s1.trans (Same.new (R3.same.free hp))) upd_same ((R3.lay hp).more upd_same (R3.same.free hp) (R3.notOwn hp))
def spHints (P : Program) (w : World) (K : PySem.W.Frag) (mg : Str → Option Value) (base : Heap) (CR : Addr) : Sp := fun vs H Q _ => ∃ g : Int → Bool, ∃ f HB H0 t most r A dx q, vs = [.ref r, .ref f] ∧ FV P w K mg base f 1 ["count"] (sp1 fun i => .bl (g i)) ∧ g (-1) = false ∧
  Rep K CR HB H0 t most H r A dx q false ∧ Out K CR HB H0 t most r (match Sa20.without q (fun n => g (n : Int)) with
    | none => .bad (-3)
    | some x => match Sa20.hinted x.2 (x.1.length / 2) with
      | none => .bad (-11)
      | some u => .on u) Q
theorem def_add_hints (T : Txt P w K mg CR CS) : Def P w K mg base "add_hints" 3 ["run", "fits"] (spHints P w K mg base CR) := by
  refine T.f_add_hints.mk sc_add_hints (fun _ _ _ _ _ _ us hl => match us, hl with | [_, _], _ => rfl) (fun vs H Q E h => ?_) (fun f cdv A outer s H vs Q E hr h => ?_)
  · obtain ⟨g, ff, HB, H0, t, most, r, A1, dx, q, rfl, F_fits, hg, R, out⟩ := h; rfl
  · obtain ⟨g, ff, HB, H0, t, most, r, A1, dx, q, rfl, F_fits, hg, R, out⟩ := h
    have ri := R.ins
    have rs := R.st
    refine ⟨_, (pss_cons (ps_set (i := 2) sc_add_hints.nd rfl (Or.inl rfl) (pe_callD (def_take_with_width T) (hr.mono (by decide)) rfl (pa_cons (pv 0) (pa_cons (pv 1) pa_nil)))) (pss_cons (ps_if (pt_cmp (pc_isN (pv 2))) (pss_one (ps_ret (pe_cst T.c_WRONG_COUNT))) pss_nil) (pss_cons (ps_fldaug (pv 0) (pe_op op_fdivB (pe_callB call_lenR rfl T.b_len bt_len (pa_cons (pv 2) pa_nil)) pe_int) in_add) (pss_cons (ps_if (pt_cmpR op_gt (pe_fld (pv 0) rfl) (pe_cst T.c_MOST_HINTS) (nomark _)) (pss_one (ps_ret (pe_cst T.c_TOO_MANY_HINTS))) pss_nil) (pss_one (ps_ret (pe_cst T.c_FINE))))))), ?_⟩
    repeat walk_at "r2"
    refine ⟨g, ff, HB, H0, t, most, r, A1, dx, q, rfl, F_fits, hg, R, ?_⟩
    cases hw : Sa20.without q (fun n => g (n : Int)) with
    | none =>
      rw [hw] at out
      intro H1 s1
      repeat walk_at "r2"
      exact out _ s1
    | some x =>
      rw [hw] at out
      intro H1 A2 H2 a s1 ha R1
      have ri1 := R1.ins
      have ha2 := SqL.of (K := K) (R1.same _ _ ha)
      repeat walk_at "r2"
      have R2 : Rep K CR HB H2 t most (upd H1 r (.ins CR dx (flds { A2 with hints := A2.hints + ((izs x.1).length : Nat) / 2 }))) r { A2 with hints := A2.hints + ((izs x.1).length : Nat) / 2 } dx { x.2 with hints := x.2.hints + x.1.length / 2 } false :=
        R1.setA rfl rfl rfl rfl rfl rfl rfl rfl R1.co rfl rfl rfl R1.wi R1.wd (by show A2.hints + ((izs x.1).length : Nat) / 2 = ((x.2.hints + x.1.length / 2 : Nat) : Int); rw [R1.hi, ints_len]; omega) R1.op R1.x R1.y R1.bg R1.en
      have eh : A2.hints + ((izs x.1).length : Nat) / 2 = ((x.2.hints + x.1.length / 2 : Nat) : Int) := by rw [R1.hi, ints_len]; omega
      have ri2 := R2.ins
      repeat walk_at "r2"
      refine iteD (fun h1 => ?_) (fun h1 => ?_)
      · have e : Sa20.hinted x.2 (x.1.length / 2) = none := by unfold Sa20.hinted; rw [if_pos]; have h1 : (96 : Int) < A2.hints + ((izs x.1).length : Nat) / 2 := h1; rw [eh] at h1; omega
        simp only [e] at out
        repeat walk_at "r2"
        exact out _ (s1.trans R2.same)
      · have e : Sa20.hinted x.2 (x.1.length / 2) = some { x.2 with hints := x.2.hints + x.1.length / 2 } := by unfold Sa20.hinted; rw [if_neg]; have h1 : ¬ (96 : Int) < A2.hints + ((izs x.1).length : Nat) / 2 := h1; rw [eh] at h1; omega
        simp only [e] at out
        repeat walk_at "r2"
        exact out _ _ _ (R2.down R.b0 s1)
theorem Rep.cal {HB H0 H : Hp} {t : Sa20.Subrs} {most : Int} {r : Addr} {A : Flds} {dx : Addr} {q : Sa20.Run} {e : Bool} (R : Rep K CR HB H0 t most H r A dx q e) {ts : List Addr} {fs : List Sa20.Frame} {c : Addr} {p : Int} {f : Sa20.Frame} {rest : List Sa20.Frame}
    (hf : fs = f :: rest) (hc : SqL K HB c (bytesV f.code)) (hp : p = (f.pc : Int)) (ha : All2 (fun t (f : Sa20.Frame) => ∃ c, H t = some (.tup [.ref c, .int (f.pc : Int)]) ∧ SqL K HB c (bytesV f.code)) ts rest.reverse) :
    Rep K CR HB H0 t most (upd (upd H A.callers (.lst (ts.map V.ref))) r (.ins CR dx (flds { A with code := c, pc := p }))) r { A with code := c, pc := p } dx { q with frames := fs } e := by
  obtain ⟨xs, hk⟩ := R.kaddr
  have nk : A.callers ≠ r := ne_ll R.ins hk
  have ne : ∀ b o, H b = some o → b ≠ r → b ≠ A.callers → (upd (upd H A.callers (.lst (ts.map V.ref))) r (.ins CR dx (flds { A with code := c, pc := p }))) b = some o := fun b o h n1 n2 => by rw [upd_ne n1, upd_ne n2]; exact h
  refine ⟨R.b0, fun b o h => ne b o (R.same b o h) (ne_of_none h R.fr) (ne_of_none h R.fk), upd_same, R.fr, R.fs, R.fc, R.fd, R.fk, ne _ _ R.st (ne_ll R.ins R.st) R.d3, ne _ _ R.ce (ne_ll R.ins R.ce) R.d5, ne _ _ R.dr (ne_ll R.ins R.dr) R.d6, ?_,
    ⟨f, rest, hf, hc, hp⟩, R.own, R.common, R.most_, R.wi, R.wd, R.hi, R.op, R.x, R.y, R.bg, R.en, R.d1, R.d2, R.d3, R.d4, R.d5, R.d6⟩
  show CallersAt K HB _ A.callers fs.tail.reverse
  rw [hf]
  refine ⟨ts, ?_, ha.imp fun _ _ ⟨c', k1, k2⟩ => ⟨c', ne _ _ k1 (ne_of k1 R.ins (by intro z; cases z)) (ne_of k1 hk (by intro z; cases z)), k2⟩⟩
  rw [upd_ne nk]; exact upd_same
theorem without_frames {q : Sa20.Run} {g : Nat → Bool} {x : List Int × Sa20.Run} (h : Sa20.without q g = some x) : x.2.frames = q.frames := by
  unfold Sa20.without at h
  simp only at h
  split at h
  · cases h; rfl
  · split at h
    · cases h; rfl
    · cases h
theorem hinted_frames {q u : Sa20.Run} {k : Nat} (h : Sa20.hinted q k = some u) : u.frames = q.frames := by
  unfold Sa20.hinted at h
  split at h
  · cases h
  · cases h; rfl
theorem bytesV_len (b : Sa20.Bytes) : (bytesV b).length = b.length := by unfold bytesV; rw [ints_len, List.length_map]
theorem atI_lastI (s : List Int) (a : Int) : atI (izs (s ++ [a])) (-1) = some (.int a) := by rw [ints_app, ints_one]; exact atI_last _ _
def spStems (K : PySem.W.Frag) (CR : Addr) : Sp := fun vs H Q E => ∃ k, (k = 1 ∨ k = 3 ∨ k = 18 ∨ k = 23) ∧ spDeed K CR k vs H Q E
def spMask (K : PySem.W.Frag) (CR : Addr) : Sp := fun vs H Q E => ∃ k, (k = 19 ∨ k = 20) ∧ spDeed K CR k vs H Q E
theorem def_stems (T : Txt P w K mg CR CS) : Def P w K mg base "stems" 4 ["run"] (spStems K CR) := by
  refine T.f_stems.mk sc_stems (fun _ _ _ _ _ _ us hl => match us, hl with | [_], _ => rfl) (fun vs H Q E h => ?_) (fun f cdv A outer s H vs Q E hr h => ?_)
  · obtain ⟨kk, hk, HB, H0, t, most, r, A1, dx, q, rfl, R, X, out⟩ := h; rfl
  · obtain ⟨kk, hk, HB, H0, t, most, r, A1, dx, q, rfl, R, X, out⟩ := h
    have ri := R.ins
    have rs := R.st
    refine ⟨_, (pss_one (ps_ret (pe_callD (def_add_hints T) (hr.mono (by decide)) rfl (pa_cons (pv 0) (pa_cons (pe_fnv T.f_some_pairs) pa_nil))))), ?_⟩
    repeat walk_at "r2"
    intro ff hff
    repeat walk_at "r2"
    rw [op_stems hk] at out
    exact ⟨fun i => decide (2 ≤ i ∧ i % 2 = 0), ff, HB, H0, t, most, r, A1, dx, q, rfl, (def_some_pairs T).fv hff, by decide, R, out⟩
theorem def_mask (T : Txt P w K mg CR CS) : Def P w K mg base "mask" 4 ["run"] (spMask K CR) := by
  refine T.f_mask.mk sc_mask (fun _ _ _ _ _ _ us hl => match us, hl with | [_], _ => rfl) (fun vs H Q E h => ?_) (fun f cdv A outer s H vs Q E hr h => ?_)
  · obtain ⟨kk, hk, HB, H0, t, most, r, A1, dx, q, rfl, R, X, out⟩ := h; rfl
  · obtain ⟨kk, hk, HB, H0, t, most, r, A1, dx, q, rfl, R, X, out⟩ := h
    have ri := R.ins
    have rs := R.st
    refine ⟨_, (pss_cons (ps_set (i := 1) sc_mask.nd rfl (Or.inl rfl) (pe_callD (def_add_hints T) (hr.mono (by decide)) rfl (pa_cons (pv 0) (pa_cons (pe_fnv T.f_pairs_or_none) pa_nil)))) (pss_cons (ps_if (pt_cmpR op_ne (pv 1) (pe_cst T.c_FINE) (nomark _)) (pss_one (ps_ret (pv 1))) pss_nil) (pss_cons (ps_set (i := 2) sc_mask.nd rfl (Or.inl rfl) (pe_op op_add (pe_fld (pv 0) rfl) (pe_op op_fdivB (pe_op op_add (pe_fld (pv 0) rfl) pe_int) pe_int))) (pss_cons (ps_if (pt_cmpR op_gt (pv 2) (pe_callB call_lenR rfl T.b_len bt_len (pa_cons (pe_fld (pv 0) rfl) pa_nil)) (nomark _)) (pss_one (ps_ret (pe_cst T.c_BYTES_END))) pss_nil) (pss_cons (ps_fld (pv 0) (pv 2) rfl) (pss_one (ps_ret (pe_cst T.c_FINE)))))))), ?_⟩
    repeat walk_at "r2"
    intro ff hff
    repeat walk_at "r2"
    rw [op_mask hk] at out
    refine ⟨fun i => decide (i % 2 = 0), ff, HB, H0, t, most, r, A1, dx, q, rfl, (def_pairs_or_none T).fv hff, by decide, R, ?_⟩
    cases hw : Sa20.without q (fun n => decide ((n : Int) % 2 = 0)) with
    | none =>
      rw [hw] at out
      intro H1 s1
      repeat walk_at "r2"
      refine iteN (fun _ => ?_) (fun h => absurd h (by decide))
      repeat walk_at "r2"
      exact out _ s1
    | some x =>
      rw [hw] at out
      simp only at out
      cases hh : Sa20.hinted x.2 (x.1.length / 2) with
      | none =>
        simp only [hh] at out ⊢
        intro H1 s1
        repeat walk_at "r2"
        refine iteN (fun _ => ?_) (fun h => absurd h (by decide))
        repeat walk_at "r2"
        exact out _ s1
      | some u =>
        simp only [hh] at out ⊢
        intro H1 A2 dx2 R1
        have ri1 := R1.ins
        obtain ⟨fr, rest, hfr, hc, hpc⟩ := R1.co
        have hc1 := (R1.b0.trans R1.same).seq hc
        have hfq : q.frames = fr :: rest := by rw [← without_frames hw, ← hinted_frames hh]; exact hfr
        have hle := X.pc fr rest hfq
        repeat walk_at "r2"
        refine iteN (fun h => absurd rfl h) (fun _ => ?_)
        repeat walk_at "r2"
        have er : (Sa20.rest u).length = fr.code.length - fr.pc := by unfold Sa20.rest; rw [hfr, List.length_drop]
        have hhi := R1.hi
        refine iteD (fun h1 => ?_) (fun h1 => ?_)
        · have h1 : ((bytesV fr.code).length : Int) < A2.pc + (A2.hints + 7) / 8 := h1
          rw [bytesV_len, hpc, hhi] at h1
          rw [if_pos (by omega)] at out
          repeat walk_at "r2"
          exact out _ R1.same
        · have h1 : ¬ ((bytesV fr.code).length : Int) < A2.pc + (A2.hints + 7) / 8 := h1
          rw [bytesV_len, hpc, hhi] at h1
          rw [if_neg (by omega)] at out
          repeat walk_at "r2"
          refine out _ _ _ (R1.setA rfl rfl rfl rfl rfl rfl rfl ?_ ⟨{ fr with pc := fr.pc + (u.hints + 7) / 8 }, rest, ?_, hc, ?_⟩ rfl rfl rfl R1.wi R1.wd R1.hi R1.op R1.x R1.y R1.bg R1.en)
          · unfold Sa20.behind; rw [hfr]; rfl
          · unfold Sa20.behind; rw [hfr]
          · show A2.pc + (A2.hints + 7) / 8 = ((fr.pc + (u.hints + 7) / 8 : Nat) : Int)
            rw [hpc, hhi]; omega
theorem def_drop (T : Txt P w K mg CR CS) : Def P w K mg base "drop" 1 ["run"] (spDeed K CR 274) := by
  refine T.f_drop.mk sc_drop (fun _ _ _ _ _ _ us hl => match us, hl with | [_], _ => rfl) (fun vs H Q E h => ?_) (fun f cdv A outer s H vs Q E hr h => ?_)
  · obtain ⟨HB, H0, t, most, r, A1, dx, q, rfl, R, X, out⟩ := h; rfl
  · obtain ⟨HB, H0, t, most, r, A1, dx, q, rfl, R, X, out⟩ := h
    have ri := R.ins
    have rs := R.st
    refine ⟨_, (pss_cons (ps_if (pt_cmpR op_lt (pe_callB call_lenR rfl T.b_len bt_len (pa_cons (pe_fld (pv 0) rfl) pa_nil)) pe_int (nomark _)) (pss_one (ps_ret (pe_cst T.c_WRONG_COUNT))) pss_nil) (pss_cons (ps_expr (pe_bm0 PySem.F.plainAttrs_list PySem.F.slot_list_pop PySem.F.type_list_pop mt_pop (pe_fld (pv 0) rfl))) (pss_one (ps_ret (pe_cst T.c_FINE))))), ?_⟩
    repeat walk_at "r2"
    refine iteD (fun h1 => ?_) (fun h1 => ?_)
    · rw [ints_len] at h1
      repeat walk_at "r2"
      rw [keep_short (by omega)] at out
      exact out H R.same
    rw [ints_len] at h1
    obtain ⟨s', a1, hs⟩ := snoc_of (l := q.stack) (by omega)
    rw [hs] at rs
    repeat walk_at "r2"
    refine ⟨ty_list rs, rd_popI rs ?_⟩
    have R1 := R.stk s'
    have ri1 := R1.ins
    have rs1 := R1.st
    have rc1 := R1.ce
    repeat walk_at "r2"
    rw [op_drop hs] at out
    exact out _ _ _ R1
theorem def_double (T : Txt P w K mg CR CS) : Def P w K mg base "double" 2 ["run"] (spDeed K CR 283) := by
  refine T.f_double.mk sc_double (fun _ _ _ _ _ _ us hl => match us, hl with | [_], _ => rfl) (fun vs H Q E h => ?_) (fun f cdv A outer s H vs Q E hr h => ?_)
  · obtain ⟨HB, H0, t, most, r, A1, dx, q, rfl, R, X, out⟩ := h; rfl
  · obtain ⟨HB, H0, t, most, r, A1, dx, q, rfl, R, X, out⟩ := h
    have ri := R.ins
    have rs := R.st
    refine ⟨_, (pss_cons (ps_if (pt_cmpR op_lt (pe_callB call_lenR rfl T.b_len bt_len (pa_cons (pe_fld (pv 0) rfl) pa_nil)) pe_int (nomark _)) (pss_one (ps_ret (pe_cst T.c_WRONG_COUNT))) pss_nil) (pss_one (ps_ret (pe_callD (def_push T) (hr.mono (by decide)) rfl (pa_cons (pv 0) (pa_cons (pe_ix ix_list (pe_fld (pv 0) rfl) (pe_un un_neg pe_int) (fun _ _ => rfl)) pa_nil)))))), ?_⟩
    repeat walk_at "r2"
    refine iteD (fun h1 => ?_) (fun h1 => ?_)
    · rw [ints_len] at h1
      repeat walk_at "r2"
      rw [keep_short (by omega)] at out
      exact out H R.same
    rw [ints_len] at h1
    obtain ⟨s', a1, hs⟩ := snoc_of (l := q.stack) (by omega)
    rw [hs] at rs
    repeat walk_at "r2"
    refine rd_ixL (SqL.of rs) (atI_lastI s' a1) ?_
    repeat walk_at "r2"
    rw [op_double hs] at out
    exact ⟨HB, H0, t, most, r, A1, dx, q, a1, rfl, R, X.ok.st, out⟩
theorem def_swap (T : Txt P w K mg CR CS) : Def P w K mg base "swap" 1 ["run"] (spDeed K CR 284) := by
  refine T.f_swap.mk sc_swap (fun _ _ _ _ _ _ us hl => match us, hl with | [_], _ => rfl) (fun vs H Q E h => ?_) (fun f cdv A outer s H vs Q E hr h => ?_)
  · obtain ⟨HB, H0, t, most, r, A1, dx, q, rfl, R, X, out⟩ := h; rfl
  · obtain ⟨HB, H0, t, most, r, A1, dx, q, rfl, R, X, out⟩ := h
    have ri := R.ins
    have rs := R.st
    refine ⟨_, (pss_cons (ps_if (pt_cmpR op_lt (pe_callB call_lenR rfl T.b_len bt_len (pa_cons (pe_fld (pv 0) rfl) pa_nil)) pe_int (nomark _)) (pss_one (ps_ret (pe_cst T.c_WRONG_COUNT))) pss_nil) (pss_cons (ps_set (i := 1) sc_swap.nd rfl (Or.inl rfl) (pe_bm0 PySem.F.plainAttrs_list PySem.F.slot_list_pop PySem.F.type_list_pop mt_pop (pe_fld (pv 0) rfl))) (pss_cons (ps_expr (pe_bm PySem.F.plainAttrs_list PySem.F.slot_list_insert PySem.F.type_list_insert mt_insert (pe_fld (pv 0) rfl) (pa_cons (pe_op op_sub (pe_callB call_lenR rfl T.b_len bt_len (pa_cons (pe_fld (pv 0) rfl) pa_nil)) pe_int) (pa_cons (pv 1) pa_nil)))) (pss_one (ps_ret (pe_cst T.c_FINE)))))), ?_⟩
    repeat walk_at "r2"
    refine iteD (fun h1 => ?_) (fun h1 => ?_)
    · rw [ints_len] at h1
      repeat walk_at "r2"
      rw [keep_short (by omega)] at out
      exact out H R.same
    rw [ints_len] at h1
    obtain ⟨s', a1, a2, hs⟩ := snoc2_of (l := q.stack) (by omega)
    have hs2 : q.stack = (s' ++ [a1]) ++ [a2] := by rw [hs, List.append_assoc]; rfl
    rw [hs2] at rs
    repeat walk_at "r2"
    refine ⟨ty_list rs, rd_popI rs ?_⟩
    have R1 := R.stk (s' ++ [a1])
    have ri1 := R1.ins
    have rs1 := R1.st
    repeat walk_at "r2"
    refine ⟨ty_list rs1, ?_⟩
    repeat walk_at "r2"
    have hl48 := X.ok.st
    rw [hs2, List.length_append, List.length_append] at hl48
    refine ⟨A1.stack, _, _, _, rfl, rfl, rs1, ?_, ?_, ?_, ?_⟩
    · show (0 : Int) ≤ ((izs (s' ++ [a1])).length : Int) - 1
      rw [ints_len, List.length_append, List.length_singleton]; omega
    · show ((izs (s' ++ [a1])).length : Int) - 1 ≤ ((izs (s' ++ [a1])).length : Int)
      omega
    · rw [ints_len, List.length_append, List.length_singleton]; have : (sizeLine : Nat) = 16777216 := sizeLine_eq; simp at hl48; omega
    · repeat walk_at "r2"
      rw [op_swap hs] at out
      have e : (izs (s' ++ [a1])).take ((((izs (s' ++ [a1])).length : Nat) : Int) - 1).toNat ++ V.int a2 :: (izs (s' ++ [a1])).drop ((((izs (s' ++ [a1])).length : Nat) : Int) - 1).toNat = izs (s' ++ [a2, a1]) := by
        have e1 : ((((izs (s' ++ [a1])).length : Nat) : Int) - 1).toNat = (izs s').length := by rw [ints_len, ints_len, List.length_append, List.length_singleton]; omega
        rw [e1, ints_app, List.take_left, List.drop_left, ints_app]; rfl
      show Q (V.int 0) (upd _ _ (.lst ((izs (s' ++ [a1])).take ((((izs (s' ++ [a1])).length : Nat) : Int) - 1).toNat ++ V.int a2 :: (izs (s' ++ [a1])).drop ((((izs (s' ++ [a1])).length : Nat) : Int) - 1).toNat)))
      rw [e]
      exact out _ _ _ (R1.stk _)
theorem def_put_in_cell (T : Txt P w K mg CR CS) : Def P w K mg base "put_in_cell" 2 ["run"] (spDeed K CR 276) := by
  refine T.f_put_in_cell.mk sc_put_in_cell (fun _ _ _ _ _ _ us hl => match us, hl with | [_], _ => rfl) (fun vs H Q E h => ?_) (fun f cdv A outer s H vs Q E hr h => ?_)
  · obtain ⟨HB, H0, t, most, r, A1, dx, q, rfl, R, X, out⟩ := h; rfl
  · obtain ⟨HB, H0, t, most, r, A1, dx, q, rfl, R, X, out⟩ := h
    have ri := R.ins
    have rs := R.st
    refine ⟨_, (pss_cons (ps_if (pt_cmpR op_lt (pe_callB call_lenR rfl T.b_len bt_len (pa_cons (pe_fld (pv 0) rfl) pa_nil)) pe_int (nomark _)) (pss_one (ps_ret (pe_cst T.c_WRONG_COUNT))) pss_nil) (pss_cons (ps_set (i := 1) sc_put_in_cell.nd rfl (Or.inl rfl) (pe_callD (def_whole_part T) (hr.mono (by decide)) rfl (pa_cons (pe_bm0 PySem.F.plainAttrs_list PySem.F.slot_list_pop PySem.F.type_list_pop mt_pop (pe_fld (pv 0) rfl)) pa_nil))) (pss_cons (ps_set (i := 2) sc_put_in_cell.nd rfl (Or.inl rfl) (pe_bm0 PySem.F.plainAttrs_list PySem.F.slot_list_pop PySem.F.type_list_pop mt_pop (pe_fld (pv 0) rfl))) (pss_cons (ps_if (pt_not (pt_val (pe_callD (def_is_cell T) (hr.mono (by decide)) rfl (pa_cons (pv 1) pa_nil)))) (pss_one (ps_ret (pe_cst T.c_OUT_OF_RANGE))) pss_nil) (pss_cons (ps_asg (pv 2) (pg_sub (pe_fld (pv 0) rfl) (pv 1) set_list)) (pss_one (ps_ret (pe_cst T.c_FINE)))))))), ?_⟩
    repeat walk_at "r2"
    refine iteD (fun h1 => ?_) (fun h1 => ?_)
    · rw [ints_len] at h1
      repeat walk_at "r2"
      rw [keep_short (by omega)] at out
      exact out H R.same
    rw [ints_len] at h1
    obtain ⟨s', a1, a2, hs⟩ := snoc2_of (l := q.stack) (by omega)
    have hs2 : q.stack = (s' ++ [a1]) ++ [a2] := by rw [hs, List.append_assoc]; rfl
    rw [hs2] at rs
    repeat walk_at "r2"
    refine ⟨ty_list rs, rd_popI rs ?_⟩
    have R1 := R.stk (s' ++ [a1])
    have ri1 := R1.ins
    have rs1 := R1.st
    repeat walk_at "r2"
    refine ⟨ty_list rs1, rd_popI rs1 ?_⟩
    have R2 := R1.stk s'
    have ri2 := R2.ins
    have rs2 := R2.st
    have rc2 := R2.ce
    repeat walk_at "r2"
    refine iteN (fun h2 => ?_) (fun h2 => ?_)
    · rw [op_put hs, if_neg h2] at out
      repeat walk_at "r2"
      exact out _ R2.same
    · rw [op_put hs, if_pos h2] at out
      repeat walk_at "r2"
      have hcl : q.cells.length = 32 := X.ok.cl
      refine rd_setL rc2 (ixN_of h2.1 (by rw [ints_len]; show a2 / 65536 < ((q.cells.length : Nat) : Int); omega)) ?_
      repeat walk_at "r2"
      rw [ints_set]
      exact out _ _ _ (R2.cel _)
theorem def_take_from_cell (T : Txt P w K mg CR CS) : Def P w K mg base "take_from_cell" 2 ["run"] (spDeed K CR 277) := by
  refine T.f_take_from_cell.mk sc_take_from_cell (fun _ _ _ _ _ _ us hl => match us, hl with | [_], _ => rfl) (fun vs H Q E h => ?_) (fun f cdv A outer s H vs Q E hr h => ?_)
  · obtain ⟨HB, H0, t, most, r, A1, dx, q, rfl, R, X, out⟩ := h; rfl
  · obtain ⟨HB, H0, t, most, r, A1, dx, q, rfl, R, X, out⟩ := h
    have ri := R.ins
    have rs := R.st
    refine ⟨_, (pss_cons (ps_if (pt_cmpR op_lt (pe_callB call_lenR rfl T.b_len bt_len (pa_cons (pe_fld (pv 0) rfl) pa_nil)) pe_int (nomark _)) (pss_one (ps_ret (pe_cst T.c_WRONG_COUNT))) pss_nil) (pss_cons (ps_set (i := 1) sc_take_from_cell.nd rfl (Or.inl rfl) (pe_callD (def_whole_part T) (hr.mono (by decide)) rfl (pa_cons (pe_bm0 PySem.F.plainAttrs_list PySem.F.slot_list_pop PySem.F.type_list_pop mt_pop (pe_fld (pv 0) rfl)) pa_nil))) (pss_cons (ps_if (pt_not (pt_val (pe_callD (def_is_cell T) (hr.mono (by decide)) rfl (pa_cons (pv 1) pa_nil)))) (pss_one (ps_ret (pe_cst T.c_OUT_OF_RANGE))) pss_nil) (pss_one (ps_ret (pe_callD (def_push T) (hr.mono (by decide)) rfl (pa_cons (pv 0) (pa_cons (pe_ix ix_list (pe_fld (pv 0) rfl) (pv 1) (fun _ _ => rfl)) pa_nil)))))))), ?_⟩
    repeat walk_at "r2"
    refine iteD (fun h1 => ?_) (fun h1 => ?_)
    · rw [ints_len] at h1
      repeat walk_at "r2"
      rw [keep_short (by omega)] at out
      exact out H R.same
    rw [ints_len] at h1
    obtain ⟨s', a1, hs⟩ := snoc_of (l := q.stack) (by omega)
    rw [hs] at rs
    repeat walk_at "r2"
    refine ⟨ty_list rs, rd_popI rs ?_⟩
    have R1 := R.stk s'
    have ri1 := R1.ins
    have rs1 := R1.st
    have rc1 := R1.ce
    repeat walk_at "r2"
    refine iteN (fun h2 => ?_) (fun h2 => ?_)
    · rw [op_get X.ok.cf hs, if_neg h2] at out
      repeat walk_at "r2"
      exact out _ R1.same
    · rw [op_get X.ok.cf hs, if_pos h2] at out
      repeat walk_at "r2"
      have hcl : q.cells.length = 32 := X.ok.cl
      refine rd_ixL (SqL.of rc1) (at_of0 h2.1 (by show a1 / 65536 < ((q.cells.length : Nat) : Int); omega)) ?_
      repeat walk_at "r2"
      have hl48 := X.ok.st
      rw [hs, List.length_append, List.length_singleton] at hl48
      refine ⟨HB, H0, t, most, r, A1, dx, _, _, rfl, R1, by show s'.length ≤ 48; omega, ?_⟩
      rw [if_neg (by show ¬ 48 ≤ s'.length; omega)]
      exact out
theorem def_once_more (T : Txt P w K mg CR CS) : Def P w K mg base "once_more" 2 ["run"] (spDeed K CR 285) := by
  refine T.f_once_more.mk sc_once_more (fun _ _ _ _ _ _ us hl => match us, hl with | [_], _ => rfl) (fun vs H Q E h => ?_) (fun f cdv A outer s H vs Q E hr h => ?_)
  · obtain ⟨HB, H0, t, most, r, A1, dx, q, rfl, R, X, out⟩ := h; rfl
  · obtain ⟨HB, H0, t, most, r, A1, dx, q, rfl, R, X, out⟩ := h
    have ri := R.ins
    have rs := R.st
    refine ⟨_, (pss_cons (ps_if (pt_cmpR op_lt (pe_callB call_lenR rfl T.b_len bt_len (pa_cons (pe_fld (pv 0) rfl) pa_nil)) pe_int (nomark _)) (pss_one (ps_ret (pe_cst T.c_WRONG_COUNT))) pss_nil) (pss_cons (ps_set (i := 1) sc_once_more.nd rfl (Or.inl rfl) (pe_callB (call_maxR rfl) rfl T.b_max bt_max (pa_cons pe_int (pa_cons (pe_callD (def_whole_part T) (hr.mono (by decide)) rfl (pa_cons (pe_bm0 PySem.F.plainAttrs_list PySem.F.slot_list_pop PySem.F.type_list_pop mt_pop (pe_fld (pv 0) rfl)) pa_nil)) pa_nil)))) (pss_cons (ps_if (pt_cmpR op_ge (pv 1) (pe_callB call_lenR rfl T.b_len bt_len (pa_cons (pe_fld (pv 0) rfl) pa_nil)) (nomark _)) (pss_one (ps_ret (pe_cst T.c_OUT_OF_RANGE))) pss_nil) (pss_one (ps_ret (pe_callD (def_push T) (hr.mono (by decide)) rfl (pa_cons (pv 0) (pa_cons (pe_ix ix_list (pe_fld (pv 0) rfl) (pe_op op_sub (pe_op op_sub (pe_callB call_lenR rfl T.b_len bt_len (pa_cons (pe_fld (pv 0) rfl) pa_nil)) pe_int) (pv 1)) (fun _ _ => rfl)) pa_nil)))))))), ?_⟩
    repeat walk_at "r2"
    refine iteD (fun h1 => ?_) (fun h1 => ?_)
    · rw [ints_len] at h1
      repeat walk_at "r2"
      rw [keep_short (by omega)] at out
      exact out H R.same
    rw [ints_len] at h1
    obtain ⟨s', a1, hs⟩ := snoc_of (l := q.stack) (by omega)
    rw [hs] at rs
    repeat walk_at "r2"
    refine ⟨ty_list rs, rd_popI rs ?_⟩
    have R1 := R.stk s'
    have ri1 := R1.ins
    have rs1 := R1.st
    have rc1 := R1.ce
    repeat walk_at "r2"
    have hmx : (if a1 / 65536 > 0 then a1 / 65536 else 0) = (((a1 / 65536).toNat : Nat) : Int) := by split <;> omega
    rw [hmx]
    refine iteD (fun h2 => ?_) (fun h2 => ?_)
    · have h2 : ((izs s').length : Int) ≤ (((a1 / 65536).toNat : Nat) : Int) := h2
      rw [ints_len] at h2
      rw [op_more X.ok.ft hs, if_pos (by omega)] at out
      repeat walk_at "r2"
      exact out _ R1.same
    · have h2 : ¬ ((izs s').length : Int) ≤ (((a1 / 65536).toNat : Nat) : Int) := h2
      rw [ints_len] at h2
      rw [op_more X.ok.ft hs, if_neg (by omega)] at out
      repeat walk_at "r2"
      refine rd_ixL (SqL.of rs1) (at_of0 (l := s') (by show (0 : Int) ≤ (((izs s').length : Nat) : Int) - 1 - (((a1 / 65536).toNat : Nat) : Int); rw [ints_len]; omega) (by show (((izs s').length : Nat) : Int) - 1 - (((a1 / 65536).toNat : Nat) : Int) < _; rw [ints_len]; omega)) ?_
      repeat walk_at "r2"
      have hl48 := X.ok.st
      rw [hs, List.length_append, List.length_singleton] at hl48
      refine ⟨HB, H0, t, most, r, A1, dx, _, _, rfl, R1, by show s'.length ≤ 48; omega, ?_⟩
      rw [if_neg (by show ¬ 48 ≤ s'.length; omega)]
      have e : (((izs s').length : Nat) : Int) - 1 - (((a1 / 65536).toNat : Nat) : Int) = ((s'.length - 1 - (a1 / 65536).toNat : Nat) : Int) := by rw [ints_len]; omega
      rw [e, Int.toNat_natCast]
      exact out
theorem def_turn (T : Txt P w K mg CR CS) : Def P w K mg base "turn" 2 ["run"] (spDeed K CR 286) := by
  refine T.f_turn.mk sc_turn (fun _ _ _ _ _ _ us hl => match us, hl with | [_], _ => rfl) (fun vs H Q E h => ?_) (fun f cdv A outer s H vs Q E hr h => ?_)
  · obtain ⟨HB, H0, t, most, r, A1, dx, q, rfl, R, X, out⟩ := h; rfl
  · obtain ⟨HB, H0, t, most, r, A1, dx, q, rfl, R, X, out⟩ := h
    have ri := R.ins
    have rs := R.st
    refine ⟨_, (pss_cons (ps_if (pt_cmpR op_lt (pe_callB call_lenR rfl T.b_len bt_len (pa_cons (pe_fld (pv 0) rfl) pa_nil)) pe_int (nomark _)) (pss_one (ps_ret (pe_cst T.c_WRONG_COUNT))) pss_nil) (pss_cons (ps_set (i := 1) sc_turn.nd rfl (Or.inl rfl) (pe_callD (def_whole_part T) (hr.mono (by decide)) rfl (pa_cons (pe_bm0 PySem.F.plainAttrs_list PySem.F.slot_list_pop PySem.F.type_list_pop mt_pop (pe_fld (pv 0) rfl)) pa_nil))) (pss_cons (ps_set (i := 2) sc_turn.nd rfl (Or.inl rfl) (pe_callD (def_whole_part T) (hr.mono (by decide)) rfl (pa_cons (pe_bm0 PySem.F.plainAttrs_list PySem.F.slot_list_pop PySem.F.type_list_pop mt_pop (pe_fld (pv 0) rfl)) pa_nil))) (pss_cons (ps_set (i := 3) sc_turn.nd rfl (Or.inl rfl) (pe_op op_sub (pe_callB call_lenR rfl T.b_len bt_len (pa_cons (pe_fld (pv 0) rfl) pa_nil)) (pv 2))) (pss_cons (ps_if (PW.pt (pw_or (pt_cmpR op_lt (pv 2) pe_int (nomark _)) (pw_or1 (pt_cmpR op_lt (pv 3) pe_int (nomark _))))) (pss_one (ps_ret (pe_cst T.c_OUT_OF_RANGE))) pss_nil) (pss_cons (ps_if (pt_cmpR op_gt (pv 2) pe_int (nomark _)) (pss_cons (ps_set (i := 4) sc_turn.nd rfl (Or.inl rfl) (pe_op op_sub (pe_callB call_lenR rfl T.b_len bt_len (pa_cons (pe_fld (pv 0) rfl) pa_nil)) (pe_op op_mod (pv 1) (pv 2)))) (pss_one (ps_fld (pv 0) (pe_op op_cat (pe_op op_cat (pe_slice sl_list (pe_fld (pv 0) rfl) po_none (po_some (pv 3))) (pe_slice sl_list (pe_fld (pv 0) rfl) (po_some (pv 4)) po_none)) (pe_slice sl_list (pe_fld (pv 0) rfl) (po_some (pv 3)) (po_some (pv 4)))) rfl))) pss_nil) (pss_one (ps_ret (pe_cst T.c_FINE))))))))), ?_⟩
    repeat walk_at "r2"
    refine iteD (fun h1 => ?_) (fun h1 => ?_)
    · rw [ints_len] at h1
      repeat walk_at "r2"
      rw [keep_short (by omega)] at out
      exact out H R.same
    rw [ints_len] at h1
    obtain ⟨s', a1, a2, hs⟩ := snoc2_of (l := q.stack) (by omega)
    have hs2 : q.stack = (s' ++ [a1]) ++ [a2] := by rw [hs, List.append_assoc]; rfl
    rw [hs2] at rs
    repeat walk_at "r2"
    refine ⟨ty_list rs, rd_popI rs ?_⟩
    have R1 := R.stk (s' ++ [a1])
    have ri1 := R1.ins
    have rs1 := R1.st
    repeat walk_at "r2"
    refine ⟨ty_list rs1, rd_popI rs1 ?_⟩
    have R2 := R1.stk s'
    have ri2 := R2.ins
    have rs2 := R2.st
    have rc2 := R2.ce
    repeat walk_at "r2"
    rw [op_turn hs] at out
    have hl48 := X.ok.st
    rw [hs2, List.length_append, List.length_append] at hl48
    have hsl : s'.length ≤ 48 := by simp at hl48; omega
    have hz : (sizeLine : Nat) = 16777216 := sizeLine_eq
    have key : a1 / 65536 < 0 ∨ (s'.length : Int) < a1 / 65536 → Q (.int (-8)) (upd (upd H A1.stack (.lst (izs (s' ++ [a1])))) A1.stack (.lst (izs s'))) := fun h => by
      rw [if_pos h] at out
      exact out _ R2.same
    refine iteD (fun h2 => ?_) (fun h2 => ?_)
    · have h2 : a1 / 65536 < 0 := h2
      refine iteT ?_
      repeat walk_at "r2"
      exact key (.inl h2)
    have h2 : ¬ a1 / 65536 < 0 := h2
    repeat walk_at "r2"
    cases h3 : (decide ((((izs s').length : Nat) : Int) - a1 / 65536 < 0)) with
    | true =>
      have h3 := of_decide_eq_true h3
      rw [ints_len] at h3
      refine iteT ?_
      repeat walk_at "r2"
      exact key (.inr (by omega))
    | false =>
    have h3 := of_decide_eq_false h3
    rw [ints_len] at h3
    refine iteF ?_
    rw [if_neg (by omega)] at out
    repeat walk_at "r2"
    refine iteD (fun h4 => ?_) (fun h4 => ?_)
    · have h4 : 0 < a1 / 65536 := h4
      have hm0 := Int.emod_nonneg (a2 / 65536) (show a1 / 65536 ≠ 0 by omega)
      have hm1 := Int.emod_lt_of_pos (a2 / 65536) h4
      have c1 : cutV (izs s') none (some ((((izs s').length : Nat) : Int) - a1 / 65536)) = izs (s'.take (s'.length - (a1 / 65536).toNat)) := by
        rw [cut_to (by rw [ints_len]; omega), ints_len]; congr 2; omega
      have c2 : cutV (izs s') (some ((((izs s').length : Nat) : Int) - a2 / 65536 % (a1 / 65536))) none = izs (s'.drop (s'.length - (a2 / 65536 % (a1 / 65536)).toNat)) := by
        rw [cut_from (by rw [ints_len]; omega), ints_len]; congr 2; omega
      have c3 : cutV (izs s') (some ((((izs s').length : Nat) : Int) - a1 / 65536)) (some ((((izs s').length : Nat) : Int) - a2 / 65536 % (a1 / 65536))) =
          izs ((s'.drop (s'.length - (a1 / 65536).toNat)).take ((s'.length - (a2 / 65536 % (a1 / 65536)).toNat) - (s'.length - (a1 / 65536).toNat))) := by
        rw [cut_mid (by rw [ints_len]; omega) (by rw [ints_len]; omega) (by rw [ints_len]; omega), ints_len]
        have e1 : ((s'.length : Int) - a1 / 65536).toNat = s'.length - (a1 / 65536).toNat := by omega
        have e2 : ((s'.length : Int) - a2 / 65536 % (a1 / 65536)).toNat = s'.length - (a2 / 65536 % (a1 / 65536)).toNat := by omega
        rw [e1, e2]
      have eT : s'.take (s'.length - (a1 / 65536).toNat) ++ Sa20.turned (s'.drop (s'.length - (a1 / 65536).toNat)) (a2 / 65536) =
          (s'.take (s'.length - (a1 / 65536).toNat) ++ s'.drop (s'.length - (a2 / 65536 % (a1 / 65536)).toNat)) ++ (s'.drop (s'.length - (a1 / 65536).toNat)).take ((s'.length - (a2 / 65536 % (a1 / 65536)).toNat) - (s'.length - (a1 / 65536).toNat)) := by
        rw [List.append_assoc]
        congr 1
        unfold Sa20.turned
        simp only
        have e0 : (s'.drop (s'.length - (a1 / 65536).toNat)).length = (a1 / 65536).toNat := by rw [List.length_drop]; omega
        rw [e0, if_neg (by omega), Int.toNat_of_nonneg (by omega), List.drop_drop]
        have e1 : s'.length - (a1 / 65536).toNat + ((a1 / 65536).toNat - (a2 / 65536 % (a1 / 65536)).toNat) = s'.length - (a2 / 65536 % (a1 / 65536)).toNat := by omega
        have e2 : (a1 / 65536).toNat - (a2 / 65536 % (a1 / 65536)).toNat = (s'.length - (a2 / 65536 % (a1 / 65536)).toNat) - (s'.length - (a1 / 65536).toNat) := by omega
        rw [e1, e2]
      rw [eT] at out
      have l1 : (s'.take (s'.length - (a1 / 65536).toNat)).length ≤ 48 := by rw [List.length_take]; omega
      have l2 : (s'.drop (s'.length - (a2 / 65536 % (a1 / 65536)).toNat)).length ≤ 48 := by rw [List.length_drop]; omega
      have l3 : ((s'.drop (s'.length - (a1 / 65536).toNat)).take ((s'.length - (a2 / 65536 % (a1 / 65536)).toNat) - (s'.length - (a1 / 65536).toNat))).length ≤ 48 := by rw [List.length_take, List.length_drop]; omega
      generalize s'.take (s'.length - (a1 / 65536).toNat) = L1 at *
      generalize s'.drop (s'.length - (a2 / 65536 % (a1 / 65536)).toNat) = L2 at *
      generalize (s'.drop (s'.length - (a1 / 65536).toNat)).take ((s'.length - (a2 / 65536 % (a1 / 65536)).toNat) - (s'.length - (a1 / 65536).toNat)) = L3 at *
      repeat walk_at "r2"
      rw [c1]
      intro p1 hp1
      have R3 := R2.lay (o := .lst (izs L1)) hp1
      have rs3 := R3.st
      have ri3 := R3.ins
      repeat walk_at "r2"
      rw [c2]
      intro p2 hp2
      have R4 := R3.lay (o := .lst (izs L2)) hp2
      refine rd_cat (keepN upd_same hp2) upd_same (by rw [ints_len, ints_len]; omega) ?_
      rw [← ints_app]
      intro p3 hp3
      have R5 := R4.lay (o := .lst (izs (L1 ++ L2))) hp3
      have rs5 := R5.st
      have ri5 := R5.ins
      repeat walk_at "r2"
      rw [c3]
      intro p4 hp4
      have R6 := R5.lay (o := .lst (izs L3)) hp4
      refine rd_cat (keepN upd_same hp4) upd_same (by rw [ints_len, ints_len, List.length_append]; omega) ?_
      rw [← ints_app]
      intro p5 hp5
      have R7 := R6.lay (o := .lst (izs (L1 ++ L2 ++ L3))) hp5
      have ri7 := R7.ins
      have nO := R6.notOwn hp5
      repeat walk_at "r2"
      exact out _ _ _ (R7.newStack upd_same (R6.same.free hp5) (fun k => nO (.inr (.inr (.inl k)))) (fun k => nO (.inr (.inr (.inr (.inl k))))) (fun k => nO (.inr (.inr (.inr (.inr k))))))
    · have h4 : ¬ 0 < a1 / 65536 := h4
      have h5 : a1 / 65536 = 0 := by omega
      repeat walk_at "r2"
      have e : s'.take (s'.length - (a1 / 65536).toNat) ++ Sa20.turned (s'.drop (s'.length - (a1 / 65536).toNat)) (a2 / 65536) = s' := by
        rw [h5, show (0 : Int).toNat = 0 from rfl, Nat.sub_zero, List.take_length, List.drop_length]
        show s' ++ [] = s'
        rw [List.append_nil]
      rw [e] at out
      exact out _ _ _ R2
def StepsAt (H : Hp) (a : Addr) (l : List Sa20.Step) : Prop := ∃ ts : List Addr, H a = some (.lst (ts.map V.ref)) ∧ All2 (fun t (s : Sa20.Step) => H t = some (.tup [.int s.1, .int s.2])) ts l
def PiecesAt (H : Hp) (a : Addr) (l : List (List Sa20.Step)) : Prop := ∃ as : List Addr, H a = some (.lst (as.map V.ref)) ∧ All2 (fun t s => StepsAt H t s) as l
def Nw (H H' : Hp) : Hp := fun b => if (H b).isSome = true then none else H' b
theorem nw_of {H H' : Hp} {b : Addr} {o : HO} (h : H b = none) (h' : H' b = some o) : Nw H H' b = some o := by unfold Nw; rw [h]; exact h'
theorem of_nw {H H' : Hp} {b : Addr} {o : HO} (h : Nw H H' b = some o) : H b = none ∧ H' b = some o := by
  unfold Nw at h
  cases e : H b with
  | none => rw [e] at h; exact ⟨rfl, h⟩
  | some u => rw [e] at h; cases h
theorem StepsAt.mono {H H' : Hp} {a : Addr} {l : List Sa20.Step} (s : ∀ b o, H b = some o → H' b = some o) (h : StepsAt H a l) : StepsAt H' a l := by
  obtain ⟨ts, h1, h2⟩ := h
  exact ⟨ts, s _ _ h1, h2.imp fun _ _ k => s _ _ k⟩
theorem PiecesAt.mono {H H' : Hp} {a : Addr} {l : List (List Sa20.Step)} (s : ∀ b o, H b = some o → H' b = some o) (h : PiecesAt H a l) : PiecesAt H' a l := by
  obtain ⟨ts, h1, h2⟩ := h
  exact ⟨ts, s _ _ h1, h2.imp fun _ _ k => k.mono s⟩
def spPiece (K : PySem.W.Frag) (CR : Addr) : Sp := fun vs H Q _ => ∃ HB H0 t most r A dx q ha hd sa l, vs = [.ref r, .ref ha, .ref sa] ∧ Rep K CR HB H0 t most H r A dx q false ∧ 0 ≤ most ∧ most ≤ 1048576 ∧ H ha = some (.lst (izs hd)) ∧ hd.length ≤ 2 ∧
  StepsAt H sa l ∧ l.length ≤ 3 ∧ Out K CR HB H0 t most r (piece most.toNat hd q l) Q
def spBegin (K : PySem.W.Frag) (CR : Addr) : Sp := fun vs H Q _ => ∃ HB H0 t most r A dx q x y, vs = [.ref r, .int x, .int y] ∧ Rep K CR HB H0 t most H r A dx q false ∧ 0 ≤ most ∧ most ≤ 1048576 ∧ Out K CR HB H0 t most r (Sa20.opened most.toNat q (x, y)) Q
def PcK (o : Option (Option (List Sa20.Seg))) (H : Hp) (Q : VK) : Prop := match o with
    | some (some gs) => ∀ H' p, Same H H' → PiecesAt (Nw H H') p (gs.map sg) → Q (.ref p) H'
    | _ => ∀ H', Same H H' → Q .non H'
def spPieces (k : Nat) : Sp := fun vs H Q _ => ∃ a l, vs = [.ref a] ∧ H a = some (.lst (izs l)) ∧ l.length ≤ 48 ∧ PcK (Sa20.drawn k l) H Q
theorem PcK.bad {o : Option (Option (List Sa20.Seg))} {H : Hp} {Q : VK} (h : PcK o H Q) (e : o = some none) : ∀ H', Same H H' → Q .non H' := by subst e; exact h
theorem PcK.good {o : Option (Option (List Sa20.Seg))} {H : Hp} {Q : VK} {gs : List Sa20.Seg} {ps : List (List Sa20.Step)} (h : PcK o H Q) (e : o = some (some gs)) (e2 : gs.map sg = ps) : ∀ H' p, Same H H' → PiecesAt (Nw H H') p ps → Q (.ref p) H' := by subst e; subst e2; exact h
def isDraw (k : Nat) : Prop := k = 5 ∨ k = 6 ∨ k = 7 ∨ k = 8 ∨ k = 24 ∨ k = 25 ∨ k = 26 ∨ k = 27 ∨ k = 30 ∨ k = 31 ∨ k = 290 ∨ k = 291 ∨ k = 292 ∨ k = 293
def spDraw (P : Program) (w : World) (K : PySem.W.Frag) (mg : Str → Option Value) (base : Heap) (CR : Addr) : Sp := fun vs H Q _ => ∃ k f HB H0 t most r A dx q, vs = [.ref r, .ref f] ∧ isDraw k ∧ FV P w K mg base f 4 ["numbers"] (spPieces k) ∧
  Rep K CR HB H0 t most H r A dx q false ∧ Okx t most q ∧ Out K CR HB H0 t most r (Sa20.operate t most.toNat k q) Q
def isMade (k : Nat) : Prop := k = 259 ∨ k = 260 ∨ k = 261 ∨ k = 265 ∨ k = 270 ∨ k = 266 ∨ k = 267 ∨ k = 280 ∨ k = 268 ∨ k = 282 ∨ k = 271 ∨ k = 278
def spReckon (P : Program) (w : World) (K : PySem.W.Frag) (mg : Str → Option Value) (base : Heap) (CR : Addr) : Sp := fun vs H Q _ => ∃ k f HB H0 t most r A dx q, vs = [.ref r, .int (madeOf k : Nat), .ref f] ∧ isMade k ∧ FV P w K mg base f 2 ["numbers"] (spMade K k) ∧
  Rep K CR HB H0 t most H r A dx q false ∧ Okx t most q ∧ Out K CR HB H0 t most r (Sa20.operate t most.toNat k q) Q
def spCallOne (K : PySem.W.Frag) (CR : Addr) : Sp := fun vs H Q _ => ∃ HB H0 t most r A dx q a l, vs = [.ref r, .ref a] ∧ SubsAt K HB a l ∧ Rep K CR HB H0 t most H r A dx q false ∧ Okx t most q ∧ Out K CR HB H0 t most r (theCall l q) Q
theorem iteEF {c : Bool} {A B : Prop} (h : c = false) (k : B) : if c = true then A else B := by rw [h]; exact iteF k
theorem iteET {c : Bool} {A B : Prop} (h : c = true) (k : A) : if c = true then A else B := by rw [h]; exact iteT k
theorem places_snoc {q p : Sa20.Run} {l : List Sa20.Step} {zs : List Int} {i : Nat} {s : Sa20.Step} (h : places q l = (places p (l.drop i)).map fun x => (x.1, zs ++ x.2)) (hs : l[i]? = some s) :
    (Sa20.moved p s = none → places q l = none) ∧ (∀ p', Sa20.moved p s = some p' → places q l = (places p' (l.drop (i + 1))).map fun x => (x.1, (zs ++ [p'.x, p'.y]) ++ x.2)) := by
  have hi : i < l.length := (List.getElem?_eq_some_iff.mp hs).1
  have e : l.drop i = s :: l.drop (i + 1) := by
    rw [List.drop_eq_getElem_cons hi]
    rw [List.getElem?_eq_getElem hi] at hs
    rw [Option.some.inj hs]
  rw [e] at h
  refine ⟨fun k => ?_, fun p' k => ?_⟩
  · rw [h]; simp only [places, k]; rfl
  · rw [h]; simp only [places, k]
    cases places p' (l.drop (i + 1)) with
    | none => rfl
    | some x => simp
theorem All2.at {α β : Type} {F : α → β → Prop} {l : List α} {m : List β} (h : All2 F l m) {i : Nat} {a : α} (e : l[i]? = some a) : ∃ b, m[i]? = some b ∧ F a b := h.getL e
theorem refs_get {ts : List Addr} {i : Nat} {y : V} (h : (ts.map V.ref)[i]? = some y) : ∃ t, ts[i]? = some t ∧ y = .ref t := by
  rw [List.getElem?_map] at h
  cases e : ts[i]? with
  | none => rw [e] at h; cases h
  | some z => rw [e] at h; exact ⟨z, rfl, (Option.some.inj h).symm⟩
theorem upd_swap_ne {H : Hp} {a b : Addr} {o u : HO} (h : H b = some u) (n : b ≠ a) : upd H a o b = some u := (upd_ne n).trans h
theorem without_len {q : Sa20.Run} {g : Nat → Bool} {x : List Int × Sa20.Run} {k : Nat} (h : Sa20.without q g = some x) (hg : ∀ n, g n = true → n = k) : x.1.length = k := by
  unfold Sa20.without at h
  simp only at h
  split at h
  · rename_i c
    cases h; exact hg _ c
  · split at h
    · rename_i c
      cases h
      show (q.stack.drop 1).length = k
      rw [List.length_drop]; exact hg _ c.2.2
    · cases h
theorem def_draw_piece (T : Txt P w K mg CR CS) : Def P w K mg base "draw_piece" 2 ["run", "head", "steps"] (spPiece K CR) := by
  refine T.f_draw_piece.mk sc_draw_piece (fun _ _ _ _ _ _ us hl => match us, hl with | [_, _, _], _ => rfl) (fun vs H Q E h => ?_) (fun f cdv A outer s H vs Q E hr h => ?_)
  · obtain ⟨HB, H0, t, most, r, A1, dx, q, ha, hd, sa, l, rfl, R, m0, m1, hha, hhd, hst, hl3, out⟩ := h; rfl
  · obtain ⟨HB, H0, t, most, r, A1, dx, q, ha, hd, sa, l, rfl, R, m0, m1, hha, hhd, hst, hl3, out⟩ := h
    have ri := R.ins
    have rs := R.st
    refine ⟨_, (pss_cons (ps_set (i := 3) sc_draw_piece.nd rfl (Or.inl rfl) (pe_callTy call_listR rfl T.b_list bt_list (pa_cons (pv 1) pa_nil))) (pss_cons (ps_set (i := 4) sc_draw_piece.nd rfl (Or.inl rfl) (pe_fld (pv 0) rfl)) (pss_cons (ps_set (i := 5) sc_draw_piece.nd rfl (Or.inl rfl) (pe_fld (pv 0) rfl)) (pss_cons (ps_for PassesOwn.never rfl (pi_list (pv 2)) (pg_tup rfl (pgs_cons (pg_name (i := 6) sc_draw_piece.nd rfl (Or.inl rfl)) (pgs_cons (pg_name (i := 7) sc_draw_piece.nd rfl (Or.inl rfl)) pgs_nil))) (pss_cons (ps_aug (i := 4) sc_draw_piece.nd rfl (Or.inl rfl) (pv 6) ip_add) (pss_cons (ps_aug (i := 5) sc_draw_piece.nd rfl (Or.inl rfl) (pv 7) ip_add) (pss_cons (ps_if (PW.pt (pw_or (pt_not (pt_val (pe_callD (def_within_bits T) (hr.mono (by decide)) rfl (pa_cons (pv 4) pa_nil)))) (pw_or1 (pt_not (pt_val (pe_callD (def_within_bits T) (hr.mono (by decide)) rfl (pa_cons (pv 5) pa_nil))))))) (pss_one (ps_ret (pe_cst T.c_OUT_OF_RANGE))) pss_nil) (pss_cons (ps_expr (pe_bm PySem.F.plainAttrs_list PySem.F.slot_list_append PySem.F.type_list_append mt_append (pv 3) (pa_cons (pv 4) pa_nil))) (pss_one (ps_expr (pe_bm PySem.F.plainAttrs_list PySem.F.slot_list_append PySem.F.type_list_append mt_append (pv 3) (pa_cons (pv 5) pa_nil))))))))) (pss_cons (ps_fld (pv 0) (pv 4) rfl) (pss_cons (ps_fld (pv 0) (pv 5) rfl) (pss_one (ps_ret (pe_callD (def_put T) (hr.mono (by decide)) rfl (pa_cons (pv 0) (pa_cons (pv 3) pa_nil))))))))))), ?_⟩
    repeat walk_at "r2"
    intro n hn
    have ri1 := keepN (o := .lst (izs hd)) ri hn
    have hz : (sizeLine : Nat) = 16777216 := sizeLine_eq
    obtain ⟨ts, hsa, hts⟩ := hst
    have hsa1 := keepN (o := .lst (izs hd)) hsa hn
    repeat walk_at "r2"
    refine loop_list (xs := ts.map V.ref) (fun i σ H' => ∃ v6 v7 p zs, σ = [some (.ref r), some (.ref ha), some (.ref sa), some (.ref n), some (.int p.x), some (.int p.y), v6, v7] ∧ H' n = some (.lst (izs (hd ++ zs))) ∧ Same H H' ∧
        zs.length = 2 * i ∧ places q l = (places p (l.drop i)).map (fun x => (x.1, zs ++ x.2)) ∧ p = { q with x := p.x, y := p.y }) ?_ ?_ ?_ ?_
    · refine ⟨none, none, q, [], ?_, ?_, Same.new hn, rfl, ?_, rfl⟩
      · rw [← R.x, ← R.y]; rfl
      · rw [List.append_nil]; exact upd_same
      · rw [List.drop_zero]
        cases places q l with
        | none => rfl
        | some x => rfl
    · rintro i σ H' _ ⟨_, _, _, _, _, _, s1, _⟩
      exact SqL.of (s1 _ _ hsa)
    · rintro i y σ H' hi ⟨v6, v7, p, zs, rfl, hn1, s1, hzl, hp1, hp2⟩
      obtain ⟨tt, htt, rfl⟩ := refs_get hi
      obtain ⟨st, hst, htu⟩ := hts.at htt
      obtain ⟨k1, k2⟩ := places_snoc hp1 hst
      have hil : i < l.length := (List.getElem?_eq_some_iff.mp hst).1
      refine rd_gtup2 (SqT.of (s1 _ _ htu)) ?_
      repeat walk_at "r2"
      have bad : Sa20.moved p st = none → Q (.int (-8)) H' := fun e => by
        have e2 : piece most.toNat hd q l = .bad (-8) := by unfold piece; rw [k1 e]
        rw [e2] at out
        exact out _ (R.same.trans s1)
      refine iteN (fun h1 => ?_) (fun h1 => ?_)
      · refine iteT ?_
        repeat walk_at "r2"
        exact bad (by unfold Sa20.moved; rw [if_neg]; rintro ⟨z, _⟩; exact h1 (fits_iff.mp z))
      repeat walk_at "r2"
      refine iteN (fun h2 => ?_) (fun h2 => ?_)
      · repeat walk_at "r2"
        exact bad (by unfold Sa20.moved; rw [if_neg]; rintro ⟨_, z⟩; exact h2 (fits_iff.mp z))
      have em : Sa20.moved p st = some { p with x := p.x + st.1, y := p.y + st.2 } := by unfold Sa20.moved; rw [if_pos ⟨fits_iff.mpr h1, fits_iff.mpr h2⟩]
      repeat walk_at "r2"
      refine ⟨ty_list hn1, ?_⟩
      repeat walk_at "r2"
      refine rd_appI hn1 (by rw [List.length_append]; omega) ?_
      repeat walk_at "r2"
      refine ⟨ty_list upd_same, ?_⟩
      repeat walk_at "r2"
      refine rd_appI upd_same (by rw [List.length_append, List.length_append, List.length_singleton]; omega) ?_
      repeat walk_at "r2"
      refine ⟨_, _, { p with x := p.x + st.1, y := p.y + st.2 }, zs ++ [p.x + st.1, p.y + st.2], rfl, ?_, ?_, ?_, k2 _ em, ?_⟩
      · rw [upd_same, List.append_assoc, List.append_assoc]; rfl
      · intro b o h
        have nb : b ≠ n := ne_of_none h hn
        rw [upd_ne nb, upd_ne nb]
        exact s1 b o h
      · rw [List.length_append, hzl]; simp; omega
      · rw [hp2]
    · rintro σ H' ⟨v6, v7, p, zs, rfl, hn1, s1, hzl, hp1, hp2⟩
      have R1 := R.grow s1
      have ri2 := R1.ins
      have hll : l.drop (ts.map V.ref).length = [] := by rw [List.length_map, hts.length, List.drop_length]
      rw [hll] at hp1
      have e1 : places q l = some (p, zs) := by rw [hp1]; simp [places]
      repeat walk_at "r2"
      have R2 : Rep K CR HB H0 t most (upd (upd H' r (.ins CR dx (flds { A1 with x := p.x }))) r (.ins CR dx (flds { A1 with x := p.x, y := p.y }))) r { A1 with x := p.x, y := p.y } dx p false := by
        have R3 : Rep K CR HB H0 t most (upd H' r (.ins CR dx (flds { A1 with x := p.x }))) r { A1 with x := p.x } dx { q with x := p.x } false :=
          R1.setA rfl rfl rfl rfl rfl rfl rfl rfl R1.co rfl rfl rfl R1.wi R1.wd R1.hi R1.op rfl R1.y R1.bg R1.en
        rw [hp2]
        exact R3.setA rfl rfl rfl rfl rfl rfl rfl rfl R3.co rfl rfl rfl R3.wi R3.wd R3.hi R3.op rfl rfl R3.bg R3.en
      have nr : n ≠ r := ne_ll R1.ins hn1
      refine ⟨HB, H0, t, most, r, _, dx, p, false, n, hd ++ zs, rfl, R2, m0, m1, by rw [upd_ne nr, upd_ne nr]; exact hn1, ?_⟩
      unfold piece at out
      rw [e1] at out
      simp only at out
      cases hw : Sa20.written most.toNat p (hd ++ zs) with
      | none => rw [hw] at out; exact out
      | some u => rw [hw] at out; exact out
theorem def_begin_path (T : Txt P w K mg CR CS) : Def P w K mg base "begin_path" 3 ["run", "dx", "dy"] (spBegin K CR) := by
  refine T.f_begin_path.mk sc_begin_path (fun _ _ _ _ _ _ us hl => match us, hl with | [_, _, _], _ => rfl) (fun vs H Q E h => ?_) (fun f cdv A outer s H vs Q E hr h => ?_)
  · obtain ⟨HB, H0, t, most, r, A1, dx, q, x, y, rfl, R, m0, m1, out⟩ := h; rfl
  · obtain ⟨HB, H0, t, most, r, A1, dx, q, x, y, rfl, R, m0, m1, out⟩ := h
    have ri := R.ins
    have rs := R.st
    have hz : (sizeLine : Nat) = 16777216 := sizeLine_eq
    rw [opened_piece] at out
    have hbg := R.bg
    refine ⟨_, (pss_cons (ps_set (i := 3) sc_begin_path.nd rfl (Or.inl rfl) (pe_ifExp (pt_val (pe_fld (pv 0) rfl)) (pe_lst (pa_cons (pe_cst T.c_CLOSE) (pa_cons (pe_cst T.c_BEGIN) pa_nil))) (pe_lst (pa_cons (pe_cst T.c_BEGIN) pa_nil)))) (pss_cons (ps_fld (pv 0) pe_bl rfl) (pss_one (ps_ret (pe_callD (def_draw_piece T) (hr.mono (by decide)) rfl (pa_cons (pv 0) (pa_cons (pv 3) (pa_cons (pe_lst (pa_cons (pe_tup (pa_cons (pv 1) (pa_cons (pv 2) pa_nil))) pa_nil)) pa_nil)))))))), ?_⟩
    repeat walk_at "r2"
    cases hp : q.path with
    | true =>
      rw [hp, if_pos rfl] at out
      refine iteET (hbg.trans hp) ?_
      repeat walk_at "r2"
      refine ⟨by show 2 ≤ sizeLine; decide, fun n hn => ?_⟩
      have R1 := R.lay (o := .lst (izs [3, 0])) hn
      have ri1 := R1.ins
      repeat walk_at "r2"
      have R2 : Rep K CR HB H0 t most (upd (upd H n (.lst (izs [3, 0]))) r (.ins CR dx (flds { A1 with begun := true }))) r { A1 with begun := true } dx { q with path := true } false :=
        R1.setA rfl rfl rfl rfl rfl rfl rfl rfl R1.co rfl rfl rfl R1.wi R1.wd R1.hi R1.op R1.x R1.y rfl R1.en
      repeat walk_at "r2"
      refine ⟨by show 2 ≤ sizeLine; decide, fun tt htt => ?_⟩
      have R3 := R2.lay (o := .tup [.int x, .int y]) htt
      repeat walk_at "r2"
      refine ⟨by show 1 ≤ sizeLine; decide, fun ll hll => ?_⟩
      have R4 := R3.lay (o := .lst [.ref tt]) hll
      have nr : n ≠ r := ne_ll R1.ins (upd_same (H := H) (a := n) (o := .lst (izs [3, 0])))
      refine ⟨HB, H0, t, most, r, _, dx, _, n, [3, 0], ll, [(x, y)], rfl, R4, m0, m1, keepN (keepN ((upd_ne nr).trans upd_same) htt) hll, by show 2 ≤ 2; decide, ?_, by show 1 ≤ 3; decide, out⟩
      exact ⟨[tt], upd_same, .cons (keepN upd_same hll) .nil⟩
    | false =>
      rw [hp, if_neg (by decide)] at out
      refine iteEF (hbg.trans hp) ?_
      repeat walk_at "r2"
      refine ⟨by show 1 ≤ sizeLine; decide, fun n hn => ?_⟩
      have R1 := R.lay (o := .lst (izs [0])) hn
      have ri1 := R1.ins
      repeat walk_at "r2"
      have R2 : Rep K CR HB H0 t most (upd (upd H n (.lst (izs [0]))) r (.ins CR dx (flds { A1 with begun := true }))) r { A1 with begun := true } dx { q with path := true } false :=
        R1.setA rfl rfl rfl rfl rfl rfl rfl rfl R1.co rfl rfl rfl R1.wi R1.wd R1.hi R1.op R1.x R1.y rfl R1.en
      repeat walk_at "r2"
      refine ⟨by show 2 ≤ sizeLine; decide, fun tt htt => ?_⟩
      have R3 := R2.lay (o := .tup [.int x, .int y]) htt
      repeat walk_at "r2"
      refine ⟨by show 1 ≤ sizeLine; decide, fun ll hll => ?_⟩
      have R4 := R3.lay (o := .lst [.ref tt]) hll
      have nr : n ≠ r := ne_ll R1.ins (upd_same (H := H) (a := n) (o := .lst (izs [0])))
      refine ⟨HB, H0, t, most, r, _, dx, _, n, [0], ll, [(x, y)], rfl, R4, m0, m1, keepN (keepN ((upd_ne nr).trans upd_same) htt) hll, by show 1 ≤ 2; decide, ?_, by show 1 ≤ 3; decide, out⟩
      exact ⟨[tt], upd_same, .cons (keepN upd_same hll) .nil⟩
theorem def_move (T : Txt P w K mg CR CS) : Def P w K mg base "move" 4 ["run"] (spDeed K CR 21) := by
  refine T.f_move.mk sc_move (fun _ _ _ _ _ _ us hl => match us, hl with | [_], _ => rfl) (fun vs H Q E h => ?_) (fun f cdv A outer s H vs Q E hr h => ?_)
  · obtain ⟨HB, H0, t, most, r, A1, dx, q, rfl, R, X, out⟩ := h; rfl
  · obtain ⟨HB, H0, t, most, r, A1, dx, q, rfl, R, X, out⟩ := h
    have ri := R.ins
    have rs := R.st
    refine ⟨_, (pss_cons (ps_set (i := 1) sc_move.nd rfl (Or.inl rfl) (pe_callD (def_take_with_width T) (hr.mono (by decide)) rfl (pa_cons (pv 0) (pa_cons (pe_fnv T.f_is_two) pa_nil)))) (pss_cons (ps_if (pt_cmp (pc_isN (pv 1))) (pss_one (ps_ret (pe_cst T.c_WRONG_COUNT))) pss_nil) (pss_one (ps_ret (pe_callD (def_begin_path T) (hr.mono (by decide)) rfl (pa_cons (pv 0) (pa_cons (pe_ix ix_list (pv 1) pe_int (fun _ _ => rfl)) (pa_cons (pe_ix ix_list (pv 1) pe_int (fun _ _ => rfl)) pa_nil)))))))), ?_⟩
    repeat walk_at "r2"
    intro ff hff
    repeat walk_at "r2"
    rw [op_move] at out
    refine ⟨fun i => decide (i = 2), ff, HB, H0, t, most, r, A1, dx, q, rfl, (def_is_two T).fv hff, by decide, R, ?_⟩
    cases hw : Sa20.without q (fun n => decide ((n : Int) = 2)) with
    | none =>
      rw [hw] at out
      intro H1 s1
      repeat walk_at "r2"
      exact out _ s1
    | some x =>
      rw [hw] at out
      intro H1 A2 H2 a s1 ha R1
      have hxl : x.1.length = 2 := without_len hw (by intro n h; have := of_decide_eq_true h; omega)
      have ha1 := R1.same _ _ ha
      repeat walk_at "r2"
      refine ⟨HB, H2, t, most, r, A2, dx, x.2, _, _, rfl, R1, X.m0, X.m1, ?_⟩
      refine Out.down ?_ R.b0 s1
      exact out
theorem def_move_along_x (T : Txt P w K mg CR CS) : Def P w K mg base "move_along_x" 4 ["run"] (spDeed K CR 22) := by
  refine T.f_move_along_x.mk sc_move_along_x (fun _ _ _ _ _ _ us hl => match us, hl with | [_], _ => rfl) (fun vs H Q E h => ?_) (fun f cdv A outer s H vs Q E hr h => ?_)
  · obtain ⟨HB, H0, t, most, r, A1, dx, q, rfl, R, X, out⟩ := h; rfl
  · obtain ⟨HB, H0, t, most, r, A1, dx, q, rfl, R, X, out⟩ := h
    have ri := R.ins
    have rs := R.st
    refine ⟨_, (pss_cons (ps_set (i := 1) sc_move_along_x.nd rfl (Or.inl rfl) (pe_callD (def_take_with_width T) (hr.mono (by decide)) rfl (pa_cons (pv 0) (pa_cons (pe_fnv T.f_is_one) pa_nil)))) (pss_cons (ps_if (pt_cmp (pc_isN (pv 1))) (pss_one (ps_ret (pe_cst T.c_WRONG_COUNT))) pss_nil) (pss_one (ps_ret (pe_callD (def_begin_path T) (hr.mono (by decide)) rfl (pa_cons (pv 0) (pa_cons (pe_ix ix_list (pv 1) pe_int (fun _ _ => rfl)) (pa_cons pe_int pa_nil)))))))), ?_⟩
    repeat walk_at "r2"
    intro ff hff
    repeat walk_at "r2"
    rw [op_moveXY (.inl rfl)] at out
    refine ⟨fun i => decide (i = 1), ff, HB, H0, t, most, r, A1, dx, q, rfl, (def_is_one T).fv hff, by decide, R, ?_⟩
    cases hw : Sa20.without q (fun n => decide ((n : Int) = 1)) with
    | none =>
      rw [hw] at out
      intro H1 s1
      repeat walk_at "r2"
      exact out _ s1
    | some x =>
      rw [hw] at out
      intro H1 A2 H2 a s1 ha R1
      have hxl : x.1.length = 1 := without_len hw (by intro n h; have := of_decide_eq_true h; omega)
      have ha1 := R1.same _ _ ha
      repeat walk_at "r2"
      refine ⟨HB, H2, t, most, r, A2, dx, x.2, _, _, rfl, R1, X.m0, X.m1, ?_⟩
      refine Out.down ?_ R.b0 s1
      simp only [headD_getD] at out; exact out
theorem def_move_along_y (T : Txt P w K mg CR CS) : Def P w K mg base "move_along_y" 4 ["run"] (spDeed K CR 4) := by
  refine T.f_move_along_y.mk sc_move_along_y (fun _ _ _ _ _ _ us hl => match us, hl with | [_], _ => rfl) (fun vs H Q E h => ?_) (fun f cdv A outer s H vs Q E hr h => ?_)
  · obtain ⟨HB, H0, t, most, r, A1, dx, q, rfl, R, X, out⟩ := h; rfl
  · obtain ⟨HB, H0, t, most, r, A1, dx, q, rfl, R, X, out⟩ := h
    have ri := R.ins
    have rs := R.st
    refine ⟨_, (pss_cons (ps_set (i := 1) sc_move_along_y.nd rfl (Or.inl rfl) (pe_callD (def_take_with_width T) (hr.mono (by decide)) rfl (pa_cons (pv 0) (pa_cons (pe_fnv T.f_is_one) pa_nil)))) (pss_cons (ps_if (pt_cmp (pc_isN (pv 1))) (pss_one (ps_ret (pe_cst T.c_WRONG_COUNT))) pss_nil) (pss_one (ps_ret (pe_callD (def_begin_path T) (hr.mono (by decide)) rfl (pa_cons (pv 0) (pa_cons pe_int (pa_cons (pe_ix ix_list (pv 1) pe_int (fun _ _ => rfl)) pa_nil)))))))), ?_⟩
    repeat walk_at "r2"
    intro ff hff
    repeat walk_at "r2"
    rw [op_moveXY (.inr rfl)] at out
    refine ⟨fun i => decide (i = 1), ff, HB, H0, t, most, r, A1, dx, q, rfl, (def_is_one T).fv hff, by decide, R, ?_⟩
    cases hw : Sa20.without q (fun n => decide ((n : Int) = 1)) with
    | none =>
      rw [hw] at out
      intro H1 s1
      repeat walk_at "r2"
      exact out _ s1
    | some x =>
      rw [hw] at out
      intro H1 A2 H2 a s1 ha R1
      have hxl : x.1.length = 1 := without_len hw (by intro n h; have := of_decide_eq_true h; omega)
      have ha1 := R1.same _ _ ha
      repeat walk_at "r2"
      refine ⟨HB, H2, t, most, r, A2, dx, x.2, _, _, rfl, R1, X.m0, X.m1, ?_⟩
      refine Out.down ?_ R.b0 s1
      simp only [headD_getD] at out; exact out
theorem def_end (T : Txt P w K mg CR CS) : Def P w K mg base "end" 3 ["run"] (spDeed K CR 14) := by
  refine T.f_end.mk sc_end (fun _ _ _ _ _ _ us hl => match us, hl with | [_], _ => rfl) (fun vs H Q E h => ?_) (fun f cdv A outer s H vs Q E hr h => ?_)
  · obtain ⟨HB, H0, t, most, r, A1, dx, q, rfl, R, X, out⟩ := h; rfl
  · obtain ⟨HB, H0, t, most, r, A1, dx, q, rfl, R, X, out⟩ := h
    have ri := R.ins
    have rs := R.st
    refine ⟨_, (pss_cons (ps_if (pt_cmp (pc_isN (pe_callD (def_take_with_width T) (hr.mono (by decide)) rfl (pa_cons (pv 0) (pa_cons (pe_fnv T.f_is_none) pa_nil))))) (pss_one (ps_ret (pe_cst T.c_WRONG_COUNT))) pss_nil) (pss_cons (ps_fld (pv 0) pe_bl rfl) (pss_one (ps_ret (pe_ifExp (pt_val (pe_fld (pv 0) rfl)) (pe_callD (def_put T) (hr.mono (by decide)) rfl (pa_cons (pv 0) (pa_cons (pe_lst (pa_cons (pe_cst T.c_CLOSE) pa_nil)) pa_nil))) (pe_cst T.c_FINE)))))), ?_⟩
    repeat walk_at "r2"
    intro ff hff
    repeat walk_at "r2"
    rw [op_end] at out
    refine ⟨fun i => decide (i = 0), ff, HB, H0, t, most, r, A1, dx, q, rfl, (def_is_none T).fv hff, by decide, R, ?_⟩
    cases hw : Sa20.without q (fun n => decide ((n : Int) = 0)) with
    | none =>
      rw [hw] at out
      intro H1 s1
      repeat walk_at "r2"
      exact out _ s1
    | some x =>
      rw [hw] at out
      simp only at out
      intro H1 A2 H2 a s1 ha R1
      have ri1 := R1.ins
      repeat walk_at "r2"
      have R2 : Rep K CR HB H2 t most (upd H1 r (.ins CR dx (flds { A2 with ended := true }))) r { A2 with ended := true } dx x.2 true :=
        R1.setA rfl rfl rfl rfl rfl rfl rfl rfl R1.co rfl rfl rfl R1.wi R1.wd R1.hi R1.op R1.x R1.y R1.bg rfl
      have ri2 := R2.ins
      have hbg : A2.begun = x.2.path := R1.bg
      repeat walk_at "r2"
      cases hp : x.2.path with
      | false =>
        rw [hp, if_pos rfl] at out
        refine iteEF (hbg.trans hp) ?_
        repeat walk_at "r2"
        exact out _ _ _ (R2.down R.b0 s1)
      | true =>
        rw [hp, if_neg (by decide)] at out
        refine iteET (hbg.trans hp) ?_
        repeat walk_at "r2"
        refine ⟨by show 1 ≤ sizeLine; decide, fun p hpp => ?_⟩
        refine ⟨HB, H2, t, most, r, _, dx, x.2, true, p, [3], rfl, R2.lay hpp, X.m0, X.m1, upd_same, ?_⟩
        cases hwr : Sa20.written most.toNat x.2 [3] with
        | none => rw [hwr] at out; exact fun H' s => out H' (s1.trans s)
        | some u => rw [hwr] at out; exact fun H' A' dx' R' => out H' A' dx' (R'.down R.b0 s1)
theorem minus_nw {HB H0 H H1 : Hp} {t : Sa20.Subrs} {most : Int} {r : Addr} {A : Flds} {dx : Addr} {q : Sa20.Run} {e : Bool} (R : Rep K CR HB H0 t most H r A dx q e) : ∀ b o, Nw H H1 b = some o → minus H1 r A b = some o := fun b o h => by
  obtain ⟨h0, h1⟩ := of_nw h
  exact minus_of h1 (R.notOwn h0)
theorem sg_len (s : Sa20.Seg) : (sg s).length ≤ 3 := by cases s <;> simp [sg]
theorem piece_ends {room : Nat} {hd : List Int} {q : Sa20.Run} {l : List Sa20.Step} : (∃ z, piece room hd q l = .bad z ∧ z ≠ 0) ∨ ∃ u, piece room hd q l = .on u := by
  unfold piece
  cases places q l with
  | none => exact .inl ⟨-8, rfl, by decide⟩
  | some x =>
    simp only
    cases Sa20.written room x.1 (hd ++ x.2) with
    | none => exact .inl ⟨-9, rfl, by decide⟩
    | some u => exact .inr ⟨u, rfl⟩
theorem drawn_some {k : Nat} (hk : isDraw k) (l : List Int) : ∃ o, Sa20.drawn k l = some o := by
  rcases hk with rfl | rfl | rfl | rfl | rfl | rfl | rfl | rfl | rfl | rfl | rfl | rfl | rfl | rfl <;> exact ⟨_, rfl⟩
theorem def_draw (T : Txt P w K mg CR CS) : Def P w K mg base "draw" 5 ["run", "pieces_of"] (spDraw P w K mg base CR) := by
  refine T.f_draw.mk sc_draw (fun _ _ _ _ _ _ us hl => match us, hl with | [_, _], _ => rfl) (fun vs H Q E h => ?_) (fun f cdv A outer s H vs Q E hr h => ?_)
  · obtain ⟨kk, ff, HB, H0, t, most, r, A1, dx, q, rfl, hk, F_pieces_of, R, X, out⟩ := h; rfl
  · obtain ⟨kk, ff, HB, H0, t, most, r, A1, dx, q, rfl, hk, F_pieces_of, R, X, out⟩ := h
    have ri := R.ins
    have rs := R.st
    refine ⟨_, (pss_cons (ps_set (i := 2) sc_draw.nd rfl (Or.inl rfl) (pe_callV 1 F_pieces_of (hr.mono (by decide)) (pa_cons (pe_callD (def_take_all T) (hr.mono (by decide)) rfl (pa_cons (pv 0) pa_nil)) pa_nil))) (pss_cons (ps_if (pt_cmp (pc_isN (pv 2))) (pss_one (ps_ret (pe_cst T.c_WRONG_COUNT))) pss_nil) (pss_cons (ps_if (pt_not (pt_val (pe_fld (pv 0) rfl))) (pss_one (ps_ret (pe_cst T.c_NO_PATH))) pss_nil) (pss_cons (ps_for PassesOwn.never rfl (pi_list (pv 2)) (pg_name (i := 3) sc_draw.nd rfl (Or.inl rfl)) (pss_cons (ps_set (i := 4) sc_draw.nd rfl (Or.inl rfl) (pe_callD (def_draw_piece T) (hr.mono (by decide)) rfl (pa_cons (pv 0) (pa_cons (pe_ifExp (pt_cmpR op_eq (pe_callB call_lenR rfl T.b_len bt_len (pa_cons (pv 3) pa_nil)) pe_int (nomark _)) (pe_lst (pa_cons (pe_cst T.c_LINE) pa_nil)) (pe_lst (pa_cons (pe_cst T.c_CURVE) pa_nil))) (pa_cons (pv 3) pa_nil))))) (pss_one (ps_if (pt_cmpR op_ne (pv 4) (pe_cst T.c_FINE) (nomark _)) (pss_one (ps_ret (pv 4))) pss_nil)))) (pss_one (ps_ret (pe_cst T.c_FINE))))))), ?_⟩
    repeat walk_at "r2"
    refine ⟨HB, H0, t, most, r, A1, dx, q, rfl, R, fun H1 A2 H2 a s1 ha R1 => ?_⟩
    have hz : (sizeLine : Nat) = 16777216 := sizeLine_eq
    repeat walk_at "r2"
    rw [op_draws hk] at out
    refine ⟨a, q.stack, rfl, R1.same _ _ ha, X.ok.st, ?_⟩
    obtain ⟨o, ho⟩ := drawn_some hk q.stack
    rw [ho] at out ⊢
    unfold PcK
    cases o with
    | none =>
      intro H3 s3
      repeat walk_at "r2"
      exact out _ ((s1.trans R1.same).trans s3)
    | some gs =>
      simp only at out
      intro H3 p s3 hp
      have R2 := R1.grow s3
      have ri2 := R2.ins
      have hbg : A2.begun = q.path := R1.bg
      repeat walk_at "r2"
      cases hpth : q.path with
      | false =>
        rw [if_pos hpth] at out
        rw [show A2.begun = false from hbg.trans hpth]
        refine iteT ?_
        repeat walk_at "r2"
        exact out _ (s1.trans R2.same)
      | true =>
        rw [if_neg (by rw [hpth]; decide)] at out
        rw [show A2.begun = true from hbg.trans hpth]
        refine iteF ?_
        have R3 := R2.up
        have hpb : PiecesAt (minus H3 r A2) p (gs.map sg) := hp.mono (minus_nw R1)
        obtain ⟨as, hpl, hps⟩ := hpb
        have hpl3 : SqL K H3 p (as.map V.ref) := SqL.of (R3.same _ _ hpl)
        repeat walk_at "r2"
        have sb : Same H0 (minus H3 r A2) := s1.trans R2.minusSame
        refine loop_list (xs := as.map V.ref) (fun i σ H' => ∃ v3 v4 A3 dx3 qi, σ = [some (.ref r), some (.ref ff), some (.ref p), v3, v4] ∧ Rep K CR HB (minus H3 r A2) t most H' r A3 dx3 qi false ∧
            Sa20.draw most.toNat gs { q with stack := [] } = Sa20.draw most.toNat (gs.drop i) qi) ?_ ?_ ?_ ?_
        · exact ⟨none, none, A2, dx, { q with stack := [] }, rfl, R3, by rw [List.drop_zero]⟩
        · rintro i σ H' _ ⟨_, _, _, _, _, _, R4, _⟩
          exact SqL.of (R4.same _ _ hpl)
        · rintro i y σ H' hi ⟨v3, v4, A3, dx3, qi, rfl, R4, hd⟩
          obtain ⟨sa, hsa, rfl⟩ := refs_get hi
          obtain ⟨l, hl, hstep⟩ := hps.at hsa
          obtain ⟨g, hg, rfl⟩ : ∃ g, gs[i]? = some g ∧ sg g = l := by
            rw [List.getElem?_map] at hl
            cases e : gs[i]? with
            | none => rw [e] at hl; cases hl
            | some g => rw [e] at hl; exact ⟨g, rfl, Option.some.inj hl⟩
          have hil : i < gs.length := (List.getElem?_eq_some_iff.mp hg).1
          have edr : gs.drop i = g :: gs.drop (i + 1) := by
            rw [List.drop_eq_getElem_cons hil]
            rw [List.getElem?_eq_getElem hil] at hg
            rw [Option.some.inj hg]
          rw [edr, draw_cons] at hd
          have hs4 : StepsAt H' sa (sg g) := hstep.mono R4.same
          obtain ⟨ts, hts1, hts2⟩ := id hs4
          have hlen : (ts.map V.ref).length = (sg g).length := by rw [List.length_map, hts2.length]
          have fin : ∀ (n : Addr) (hd0 : List Int), H' n = none → hd0.length ≤ 2 → (if (sg g).length = 1 then [1] else [2]) = hd0 → ∀ (N : VK), (∀ z H5, z ≠ 0 → Same H0 H5 → Q (.int z) H5 → N (.int z) H5) → (∀ H5 A5 dx5 u, Rep K CR HB (minus H3 r A2) t most H5 r A5 dx5 u false → Sa20.draw most.toNat gs { q with stack := [] } = Sa20.draw most.toNat (gs.drop (i + 1)) u → N (.int 0) H5) →
              spPiece K CR [.ref r, .ref n, .ref sa] (upd H' n (.lst (izs hd0))) N E0 := by
            intro n hd0 hn hl0 he N hb ho
            refine ⟨HB, minus H3 r A2, t, most, r, A3, dx3, qi, n, hd0, sa, sg g, rfl, R4.lay hn, X.m0, X.m1, upd_same, hl0, hs4.mono (fun b o h => keepN h hn), sg_len g, ?_⟩
            rw [he] at hd
            rcases piece_ends (room := most.toNat) (hd := hd0) (q := qi) (l := sg g) with ⟨z, hz1, hz2⟩ | ⟨u, hu⟩
            · rw [hz1] at hd ⊢
              intro H5 s5
              have hd : Sa20.draw most.toNat gs { q with stack := [] } = .bad z := hd
              rw [hd] at out
              exact hb z H5 hz2 (sb.trans s5) (out H5 (sb.trans s5))
            · rw [hu] at hd ⊢
              intro H5 A5 dx5 R5
              exact ho H5 A5 dx5 u R5 hd
          repeat walk_at "r2"
          refine iteD (fun h1 => ?_) (fun h1 => ?_)
          all_goals (repeat walk_at "r2")
          all_goals refine ⟨by show 1 ≤ sizeLine; decide, fun n hn => ?_⟩
          all_goals (repeat walk_at "r2")
          · refine fin n [1] hn (by decide) (if_pos (by omega)) _ ?_ ?_
            · intro z H5 hz2 s5 hq
              repeat walk_at "r2"
              refine iteN (fun _ => ?_) (fun h => absurd h hz2)
              repeat walk_at "r2"
              exact hq
            · intro H5 A5 dx5 u R5 hd5
              repeat walk_at "r2"
              refine iteN (fun h => absurd rfl h) (fun _ => ?_)
              repeat walk_at "r2"
              exact ⟨_, _, A5, dx5, u, rfl, R5, hd5⟩
          · refine fin n [2] hn (by decide) (if_neg (by omega)) _ ?_ ?_
            · intro z H5 hz2 s5 hq
              repeat walk_at "r2"
              refine iteN (fun _ => ?_) (fun h => absurd h hz2)
              repeat walk_at "r2"
              exact hq
            · intro H5 A5 dx5 u R5 hd5
              repeat walk_at "r2"
              refine iteN (fun h => absurd rfl h) (fun _ => ?_)
              repeat walk_at "r2"
              exact ⟨_, _, A5, dx5, u, rfl, R5, hd5⟩
        · rintro σ H' ⟨v3, v4, A3, dx3, qi, rfl, R4, hd⟩
          have e0 : gs.drop (as.map V.ref).length = [] := by rw [List.length_map, hps.length, List.length_map, List.drop_length]
          rw [e0] at hd
          have hd : Sa20.draw most.toNat gs { q with stack := [] } = .on qi := hd
          rw [hd] at out
          repeat walk_at "r2"
          exact out _ _ _ (R4.down R.b0 sb)
theorem def_reckon (T : Txt P w K mg CR CS) : Def P w K mg base "reckon" 3 ["run", "count", "made_of"] (spReckon P w K mg base CR) := by
  refine T.f_reckon.mk sc_reckon (fun _ _ _ _ _ _ us hl => match us, hl with | [_, _, _], _ => rfl) (fun vs H Q E h => ?_) (fun f cdv A outer s H vs Q E hr h => ?_)
  · obtain ⟨kk, ff, HB, H0, t, most, r, A1, dx, q, rfl, hk, F_made_of, R, X, out⟩ := h; rfl
  · obtain ⟨kk, ff, HB, H0, t, most, r, A1, dx, q, rfl, hk, F_made_of, R, X, out⟩ := h
    have ri := R.ins
    have rs := R.st
    have hz : (sizeLine : Nat) = 16777216 := sizeLine_eq
    have hl48 := X.ok.st
    rw [op_made hk] at out
    refine ⟨_, (pss_cons (ps_set (i := 3) sc_reckon.nd rfl (Or.inl rfl) (pe_op op_sub (pe_callB call_lenR rfl T.b_len bt_len (pa_cons (pe_fld (pv 0) rfl) pa_nil)) (pv 1))) (pss_cons (ps_if (pt_cmpR op_lt (pv 3) pe_int (nomark _)) (pss_one (ps_ret (pe_cst T.c_WRONG_COUNT))) pss_nil) (pss_cons (ps_set (i := 4) sc_reckon.nd rfl (Or.inl rfl) (pe_callV 2 F_made_of (hr.mono (by decide)) (pa_cons (pe_slice sl_list (pe_fld (pv 0) rfl) (po_some (pv 3)) po_none) pa_nil))) (pss_cons (ps_if (PW.pt (pw_or (pt_cmp (pc_isN (pv 4))) (pw_or1 (pt_not (pt_val (pe_callD (def_within_bits T) (hr.mono (by decide)) rfl (pa_cons (pv 4) pa_nil))))))) (pss_one (ps_ret (pe_cst T.c_OUT_OF_RANGE))) pss_nil) (pss_cons (ps_fld (pv 0) (pe_slice sl_list (pe_fld (pv 0) rfl) po_none (po_some (pv 3))) rfl) (pss_cons (ps_expr (pe_bm PySem.F.plainAttrs_list PySem.F.slot_list_append PySem.F.type_list_append mt_append (pe_fld (pv 0) rfl) (pa_cons (pv 4) pa_nil))) (pss_one (ps_ret (pe_cst T.c_FINE))))))))), ?_⟩
    repeat walk_at "r2"
    refine iteD (fun h1 => ?_) (fun h1 => ?_)
    · rw [ints_len] at h1
      rw [if_pos (by omega)] at out
      repeat walk_at "r2"
      exact out _ R.same
    rw [ints_len] at h1
    rw [if_neg (by omega)] at out
    have c1 : cutV (izs q.stack) (some ((((izs q.stack).length : Nat) : Int) - (madeOf kk : Nat))) none = izs (q.stack.drop (q.stack.length - madeOf kk)) := by
      rw [cut_from (by rw [ints_len]; omega), ints_len]; congr 2; omega
    have c2 : cutV (izs q.stack) none (some ((((izs q.stack).length : Nat) : Int) - (madeOf kk : Nat))) = izs (q.stack.take (q.stack.length - madeOf kk)) := by
      rw [cut_to (by rw [ints_len]; omega), ints_len]; congr 2; omega
    repeat walk_at "r2"
    rw [c1]
    intro p1 hp1
    have R1 := R.lay (o := .lst (izs (q.stack.drop (q.stack.length - madeOf kk)))) hp1
    have ri1 := R1.ins
    have rs1 := R1.st
    repeat walk_at "r2"
    refine ⟨p1, _, rfl, SqL.of upd_same, by rw [List.length_drop]; omega, Fits.drop X.ok.ft _, ?_⟩
    cases hm : made kk (q.stack.drop (q.stack.length - madeOf kk)) with
    | none =>
      rw [hm] at out
      repeat walk_at "r2"
      refine iteT ?_
      repeat walk_at "r2"
      exact out _ R1.same
    | some z =>
      rw [hm] at out
      simp only at out
      rw [show optI (some z) = V.int z from rfl]
      repeat walk_at "r2"
      refine iteN (fun h2 => ?_) (fun h2 => ?_)
      · rw [if_neg h2] at out
        repeat walk_at "r2"
        exact out _ R1.same
      · rw [if_pos h2] at out
        repeat walk_at "r2"
        rw [c2]
        intro p2 hp2
        have R2 := R1.lay (o := .lst (izs (q.stack.take (q.stack.length - madeOf kk)))) hp2
        have ri2 := R2.ins
        have nO := R1.notOwn hp2
        repeat walk_at "r2"
        have R3 := R2.newStack (p := p2) upd_same (R1.same.free hp2) (fun k => nO (.inr (.inr (.inl k)))) (fun k => nO (.inr (.inr (.inr (.inl k))))) (fun k => nO (.inr (.inr (.inr (.inr k)))))
        have rs3 := R3.st
        repeat walk_at "r2"
        refine ⟨ty_list rs3, ?_⟩
        repeat walk_at "r2"
        refine rd_appI rs3 (by show (q.stack.take (q.stack.length - madeOf kk)).length < 1000000; rw [List.length_take]; omega) ?_
        repeat walk_at "r2"
        exact out _ _ _ (R3.stk _)
theorem def_call_one_of (T : Txt P w K mg CR CS) : Def P w K mg base "call_one_of" 2 ["run", "subroutines"] (spCallOne K CR) := by
  refine T.f_call_one_of.mk sc_call_one_of (fun _ _ _ _ _ _ us hl => match us, hl with | [_, _], _ => rfl) (fun vs H Q E h => ?_) (fun f cdv A outer s H vs Q E hr h => ?_)
  · obtain ⟨HB, H0, t, most, r, A1, dx, q, a, l, rfl, hsub, R, X, out⟩ := h; rfl
  · obtain ⟨HB, H0, t, most, r, A1, dx, q, a, l, rfl, hsub, R, X, out⟩ := h
    have ri := R.ins
    have rs := R.st
    obtain ⟨as, has, hall⟩ := hsub
    have has1 := (R.b0.trans R.same).seq has
    have hlen : (as.map V.ref).length = l.length := by rw [List.length_map, hall.length]
    have hz : (sizeLine : Nat) = 16777216 := sizeLine_eq
    unfold theCall at out
    refine ⟨_, (pss_cons (ps_if (pt_cmpR op_lt (pe_callB call_lenR rfl T.b_len bt_len (pa_cons (pe_fld (pv 0) rfl) pa_nil)) pe_int (nomark _)) (pss_one (ps_ret (pe_cst T.c_WRONG_COUNT))) pss_nil) (pss_cons (ps_set (i := 2) sc_call_one_of.nd rfl (Or.inl rfl) (pe_op op_add (pe_callD (def_whole_part T) (hr.mono (by decide)) rfl (pa_cons (pe_bm0 PySem.F.plainAttrs_list PySem.F.slot_list_pop PySem.F.type_list_pop mt_pop (pe_fld (pv 0) rfl)) pa_nil)) (pe_callD (def_added_for T) (hr.mono (by decide)) rfl (pa_cons (pe_callB call_lenR rfl T.b_len bt_len (pa_cons (pv 1) pa_nil)) pa_nil)))) (pss_cons (ps_if (PW.pt (pw_or (pt_cmpR op_lt (pv 2) pe_int (nomark _)) (pw_or1 (pt_cmpR op_ge (pv 2) (pe_callB call_lenR rfl T.b_len bt_len (pa_cons (pv 1) pa_nil)) (nomark _))))) (pss_one (ps_ret (pe_cst T.c_NO_SUBROUTINE))) pss_nil) (pss_cons (ps_if (pt_cmpR op_ge (pe_callB call_lenR rfl T.b_len bt_len (pa_cons (pe_fld (pv 0) rfl) pa_nil)) (pe_cst T.c_MOST_WITHIN) (nomark _)) (pss_one (ps_ret (pe_cst T.c_TOO_DEEP))) pss_nil) (pss_cons (ps_expr (pe_bm PySem.F.plainAttrs_list PySem.F.slot_list_append PySem.F.type_list_append mt_append (pe_fld (pv 0) rfl) (pa_cons (pe_tup (pa_cons (pe_fld (pv 0) rfl) (pa_cons (pe_fld (pv 0) rfl) pa_nil))) pa_nil))) (pss_cons (ps_fld (pv 0) (pe_ix ix_list (pv 1) (pv 2) (fun _ _ => rfl)) rfl) (pss_cons (ps_fld (pv 0) pe_int rfl) (pss_one (ps_ret (pe_cst T.c_FINE)))))))))), ?_⟩
    repeat walk_at "r2"
    refine iteD (fun h1 => ?_) (fun h1 => ?_)
    · rw [ints_len] at h1
      rw [if_pos (by omega)] at out
      repeat walk_at "r2"
      exact out _ R.same
    rw [ints_len] at h1
    rw [if_neg (by omega)] at out
    obtain ⟨s', a1, hs⟩ := snoc_of (l := q.stack) (by omega)
    have e1 : q.stack.getD (q.stack.length - 1) 0 = a1 := by rw [hs]; simp
    have e2 : q.stack.take (q.stack.length - 1) = s' := by rw [hs]; simp
    rw [e1, e2] at out
    rw [hs] at rs
    repeat walk_at "r2"
    refine ⟨ty_list rs, rd_popI rs ?_⟩
    have R1 := R.stk s'
    have ri1 := R1.ins
    have has2 := (R1.b0.trans R1.same).seq has
    repeat walk_at "r2"
    rw [hlen]
    simp only at out
    generalize hi : a1 / 65536 + (if (l.length : Int) < 1240 then 107 else 1131) = i at out ⊢
    have hlen2 : (((as.map V.ref).length : Nat) : Int) = (l.length : Int) := by rw [hlen]
    have key : i < 0 ∨ (l.length : Int) ≤ i → Q (.int (-5)) (upd H A1.stack (.lst (izs s'))) := fun h => by
      rw [if_pos h] at out
      exact out _ R1.same
    refine iteD (fun h2 => ?_) (fun h2 => ?_)
    · refine iteT ?_
      repeat walk_at "r2"
      exact key (.inl h2)
    repeat walk_at "r2"
    rw [hlen2]
    refine iteD (fun h3 => ?_) (fun h3 => ?_)
    · repeat walk_at "r2"
      exact key (.inr h3)
    rw [if_neg (by omega)] at out
    obtain ⟨ts, hts1, hts2⟩ := R1.ca
    obtain ⟨fr, rest, hfr, hc, hpc⟩ := R1.co
    have hfr0 : q.frames = fr :: rest := hfr
    have htl : (ts.map V.ref).length = rest.length := by rw [List.length_map, hts2.length, List.length_reverse]; show q.frames.tail.length = _; rw [hfr0]; rfl
    have hfl : q.frames.length = rest.length + 1 := by rw [hfr0]; rfl
    repeat walk_at "r2"
    rw [htl]
    refine iteD (fun h4 => ?_) (fun h4 => ?_)
    · rw [if_pos (by omega)] at out
      repeat walk_at "r2"
      exact out _ R1.same
    rw [if_neg (by omega)] at out
    repeat walk_at "r2"
    refine ⟨ty_list hts1, ?_⟩
    repeat walk_at "r2"
    refine ⟨by show 2 ≤ sizeLine; decide, fun p hp => ?_⟩
    have R2 := R1.lay (o := .tup [.ref A1.code, .int A1.pc]) hp
    have hts3 := keepN (o := .tup [.ref A1.code, .int A1.pc]) hts1 hp
    repeat walk_at "r2"
    have hf2 := X.ok.f2
    refine rd_append hts3 (by rw [htl]; omega) ?_
    have ek : ts.map V.ref ++ [V.ref p] = (ts ++ [p]).map V.ref := by rw [List.map_append]; rfl
    rw [ek]
    have ri3 : upd (upd (upd H A1.stack (.lst (izs s'))) p (.tup [.ref A1.code, .int A1.pc])) A1.callers (.lst ((ts ++ [p]).map V.ref)) r = some (.ins CR dx (flds A1)) := (upd_ne (Ne.symm (ne_ll R2.ins hts3))).trans R2.ins
    have il : i.toNat < l.length := by omega
    obtain ⟨ca, hca1, hca2⟩ := hall.get (i := i.toNat) (b := l.getD i.toNat []) (by rw [List.getD_eq_getElem?_getD, List.getElem?_eq_getElem il]; rfl)
    have has3 : SqL K (upd (upd (upd H A1.stack (.lst (izs s'))) p (.tup [.ref A1.code, .int A1.pc])) A1.callers (.lst ((ts ++ [p]).map V.ref))) a (as.map V.ref) :=
      (show Same HB _ from fun b o h => (upd_ne (ne_of_none (R2.b0 b o h) R2.fk)).trans ((R2.b0.trans R2.same) b o h)).seq has
    repeat walk_at "r2"
    refine rd_ixL has3 (v := .ref ca) (at_of (j := i.toNat) (by omega) (by rw [List.getElem?_map, hca1]; rfl)) ?_
    repeat walk_at "r2"
    rw [upd_upd]
    refine out _ _ _ (R2.cal (fs := ⟨l.getD i.toNat [], 0⟩ :: q.frames) (f := ⟨l.getD i.toNat [], 0⟩) (rest := q.frames) rfl hca2 rfl ?_)
    have hts4 : All2 (fun t (f : Sa20.Frame) => ∃ c, (upd (upd H A1.stack (.lst (izs s'))) p (.tup [.ref A1.code, .int A1.pc])) t = some (.tup [.ref c, .int (f.pc : Int)]) ∧ SqL K HB c (bytesV f.code)) ts rest.reverse := by
      have : q.frames.tail.reverse = rest.reverse := by rw [hfr0]; rfl
      rw [← this]
      exact hts2.imp fun _ _ ⟨c', k1, k2⟩ => ⟨c', keepN k1 hp, k2⟩
    rw [hfr0, List.reverse_cons]
    exact All2.snoc ⟨A1.code, by rw [← hpc]; exact upd_same, hc⟩ hts4
theorem def_call_own (T : Txt P w K mg CR CS) : Def P w K mg base "call_own" 3 ["run"] (spDeed K CR 10) := by
  refine T.f_call_own.mk sc_call_own (fun _ _ _ _ _ _ us hl => match us, hl with | [_], _ => rfl) (fun vs H Q E h => ?_) (fun f cdv A outer s H vs Q E hr h => ?_)
  · obtain ⟨HB, H0, t, most, r, A1, dx, q, rfl, R, X, out⟩ := h; rfl
  · obtain ⟨HB, H0, t, most, r, A1, dx, q, rfl, R, X, out⟩ := h
    have ri := R.ins
    have rs := R.st
    refine ⟨_, (pss_one (ps_ret (pe_callD (def_call_one_of T) (hr.mono (by decide)) rfl (pa_cons (pv 0) (pa_cons (pe_fld (pv 0) rfl) pa_nil))))), ?_⟩
    repeat walk_at "r2"
    rw [op_call (by omega) (by have := X.so; omega) (by have := X.sc; omega)] at out
    exact ⟨HB, H0, t, most, r, A1, dx, q, _, _, rfl, R.own, R, X, out⟩
theorem def_call_common (T : Txt P w K mg CR CS) : Def P w K mg base "call_common" 3 ["run"] (spDeed K CR 29) := by
  refine T.f_call_common.mk sc_call_common (fun _ _ _ _ _ _ us hl => match us, hl with | [_], _ => rfl) (fun vs H Q E h => ?_) (fun f cdv A outer s H vs Q E hr h => ?_)
  · obtain ⟨HB, H0, t, most, r, A1, dx, q, rfl, R, X, out⟩ := h; rfl
  · obtain ⟨HB, H0, t, most, r, A1, dx, q, rfl, R, X, out⟩ := h
    have ri := R.ins
    have rs := R.st
    refine ⟨_, (pss_one (ps_ret (pe_callD (def_call_one_of T) (hr.mono (by decide)) rfl (pa_cons (pv 0) (pa_cons (pe_fld (pv 0) rfl) pa_nil))))), ?_⟩
    repeat walk_at "r2"
    rw [op_call (by omega) (by have := X.so; omega) (by have := X.sc; omega)] at out
    exact ⟨HB, H0, t, most, r, A1, dx, q, _, _, rfl, R.common, R, X, out⟩
theorem def_leave (T : Txt P w K mg CR CS) : Def P w K mg base "leave" 1 ["run"] (spDeed K CR 11) := by
  refine T.f_leave.mk sc_leave (fun _ _ _ _ _ _ us hl => match us, hl with | [_], _ => rfl) (fun vs H Q E h => ?_) (fun f cdv A outer s H vs Q E hr h => ?_)
  · obtain ⟨HB, H0, t, most, r, A1, dx, q, rfl, R, X, out⟩ := h; rfl
  · obtain ⟨HB, H0, t, most, r, A1, dx, q, rfl, R, X, out⟩ := h
    have ri := R.ins
    have rs := R.st
    obtain ⟨ts, hts1, hts2⟩ := R.ca
    obtain ⟨fr, rest, hfr, hc, hpc⟩ := R.co
    have htl : (ts.map V.ref).length = rest.length := by rw [List.length_map, hts2.length, List.length_reverse, hfr]; rfl
    have hfl : q.frames.length = rest.length + 1 := by rw [hfr]; rfl
    rw [op_leave] at out
    refine ⟨_, (pss_cons (ps_if (pt_cmpR op_eq (pe_callB call_lenR rfl T.b_len bt_len (pa_cons (pe_fld (pv 0) rfl) pa_nil)) pe_int (nomark _)) (pss_one (ps_ret (pe_cst T.c_BYTES_END))) pss_nil) (pss_cons (ps_set (i := 1) sc_leave.nd rfl (Or.inl rfl) (pe_bm0 PySem.F.plainAttrs_list PySem.F.slot_list_pop PySem.F.type_list_pop mt_pop (pe_fld (pv 0) rfl))) (pss_cons (ps_fld (pv 0) (pe_ix ix_tup (pv 1) pe_int (fun _ _ => rfl)) rfl) (pss_cons (ps_fld (pv 0) (pe_ix ix_tup (pv 1) pe_int (fun _ _ => rfl)) rfl) (pss_one (ps_ret (pe_cst T.c_FINE))))))), ?_⟩
    repeat walk_at "r2"
    rw [htl]
    refine iteD (fun h1 => ?_) (fun h1 => ?_)
    · rw [if_pos (by omega)] at out
      repeat walk_at "r2"
      exact out _ R.same
    rw [if_neg (by omega)] at out
    obtain ⟨g, rest', hrest⟩ : ∃ g rest', rest = g :: rest' := by
      cases rest with
      | nil => exact absurd rfl h1
      | cons g rest' => exact ⟨g, rest', rfl⟩
    have e0 : q.frames.tail.reverse = rest'.reverse ++ [g] := by rw [hfr, hrest]; simp
    rw [e0] at hts2
    obtain ⟨ts', tt, rfl, hts3, cb, htt, hcb⟩ := hts2.unsnoc
    have ek : (ts' ++ [tt]).map V.ref = ts'.map V.ref ++ [V.ref tt] := by rw [List.map_append]; rfl
    repeat walk_at "r2"
    refine ⟨ty_list hts1, rd_pop hts1 (y := .ref tt) ?_ ?_⟩
    · rw [ek, List.length_append, List.length_singleton, Nat.add_sub_cancel, List.getElem?_append_right (Nat.le_refl _), Nat.sub_self]; rfl
    rw [ek, List.dropLast_concat]
    have ntt : tt ≠ A1.callers := ne_of htt hts1 (by intro z; cases z)
    have htt1 : upd H A1.callers (.lst (ts'.map V.ref)) tt = some (.tup [.ref cb, .int (g.pc : Int)]) := (upd_ne ntt).trans htt
    have ri1 : upd H A1.callers (.lst (ts'.map V.ref)) r = some (.ins CR dx (flds A1)) := (upd_ne (Ne.symm (ne_ll R.ins hts1))).trans ri
    repeat walk_at "r2"
    refine rd_ixT (SqT.of htt1) (v := .ref cb) rfl ?_
    repeat walk_at "r2"
    have ntr : tt ≠ r := ne_of htt ri (by intro z; cases z)
    refine rd_ixT (SqT.of ((upd_ne ntr).trans htt1)) (v := .int (g.pc : Int)) rfl ?_
    repeat walk_at "r2"
    rw [upd_upd]
    have e1 : q.frames.drop 1 = g :: rest' := by rw [hfr, hrest]; rfl
    exact out _ _ _ (R.cal e1 hcb rfl hts3)
theorem rgC {m : Nat} {c : Int} {n : Int} (hc : c = 2 ∨ c = 3 ∨ c = 4) (hn : n = (m : Int) * c) (hm : m ≤ 100) : RgC 0 n c m := by
  have hs : Builtin.Range.rangeSize 0 n c = (m : Int) := by
    unfold Builtin.Range.rangeSize
    rcases hc with h | h | h <;> subst h <;> simp only [show ((2 : Int) > 0) = True by decide, show ((3 : Int) > 0) = True by decide, show ((4 : Int) > 0) = True by decide, if_true] <;> split <;> omega
  refine ⟨by omega, by omega, ?_, hs⟩
  unfold Builtin.Range.small
  rw [hs]
  rcases hc with h | h | h <;> subst h <;>
    simp only [Builtin.Range.rangeFitsLong, Bool.and_eq_true, Bool.or_eq_true, decide_eq_true_eq, beq_iff_eq, show ((2 : Int) > 0) = True by decide, show ((3 : Int) > 0) = True by decide, show ((4 : Int) > 0) = True by decide, if_true] <;> omega
theorem nw_sub {H H1 H2 H3 : Hp} (s : Same H H1) (s' : Same H2 H3) : ∀ b o, Nw H1 H2 b = some o → Nw H H3 b = some o := fun b o h => by
  obtain ⟨h0, h1⟩ := of_nw h
  exact nw_of (s.free h0) (s' _ _ h1)
def FS (h : Hp) (t : Addr) (s : Sa20.Step) : Prop := h t = some (.tup [.int s.1, .int s.2])
def FI (h : Hp) (t : Addr) (l : List Int) : Prop := h t = some (.lst (izs l))
class Mono {β : Type} (F : Hp → Addr → β → Prop) : Prop where
  mono : ∀ {h h' : Hp} {a : Addr} {b : β}, (∀ c o, h c = some o → h' c = some o) → F h a b → F h' a b
instance monoFS : Mono FS := ⟨fun s h => s _ _ h⟩
instance monoFI : Mono FI := ⟨fun s h => s _ _ h⟩
instance monoSt : Mono StepsAt := ⟨fun s h => h.mono s⟩
structure ColAt {β : Type} (F : Hp → Addr → β → Prop) (H : Hp) (p : Addr) (H' : Hp) (as : List Addr) (l : List β) : Prop where
  fr : H p = none
  same : Same H H'
  at_ : H' p = some (.lst (as.map V.ref))
  all : All2 (F (Nw (upd H p (.lst [])) H')) as l
section
variable {β : Type} {F : Hp → Addr → β → Prop} {H H1 H2 Hn : Hp} {p e : Addr} {as : List Addr} {l : List β} {b : β}
theorem ColAt.start (hp : H1 p = none) (s : Same H H1) : ColAt F H p (upd H1 p (.lst [])) [] [] := ⟨s.free hp, s.trans (Same.new hp), upd_same, .nil⟩
theorem ColAt.free (C : ColAt F H p H1 as l) {c : Addr} (h : H1 c = none) : upd H p (.lst []) c = none := by
  have n : c ≠ p := fun k => by subst k; rw [C.at_] at h; cases h
  rw [upd_ne n]; exact C.same.free h
theorem ColAt.grow [Mono F] (C : ColAt F H p H1 as l) (s : Same H1 H2) : ColAt F H p H2 as l :=
  ⟨C.fr, C.same.trans s, s _ _ C.at_, C.all.imp fun _ _ k => Mono.mono (nw_sub (Same.refl _) s) k⟩
theorem ColAt.push [Mono F] (C : ColAt F H p H1 as l) (s : Same H1 Hn) (he : F (Nw (upd H p (.lst [])) Hn) e b) : ColAt F H p (upd Hn p (.lst (as.map V.ref ++ [.ref e]))) (as ++ [e]) (l ++ [b]) := by
  have m : ∀ c o, Nw (upd H p (.lst [])) Hn c = some o → Nw (upd H p (.lst [])) (upd Hn p (.lst (as.map V.ref ++ [.ref e]))) c = some o := fun c o h => by
    obtain ⟨h0, h1⟩ := of_nw h
    have n : c ≠ p := fun k => by subst k; rw [upd_same] at h0; cases h0
    exact nw_of h0 ((upd_ne n).trans h1)
  refine ⟨C.fr, fun c o h => ?_, by rw [upd_same, List.map_append]; rfl, All2.snoc (Mono.mono m he) ((C.grow s).all.imp fun _ _ k => Mono.mono m k)⟩
  rw [upd_ne (ne_of_none h C.fr)]; exact s _ _ (C.same _ _ h)
theorem ColAt.done [Mono F] (C : ColAt F H p H1 as l) : ∃ as, (Nw H H1) p = some (.lst (as.map V.ref)) ∧ All2 (F (Nw H H1)) as l :=
  ⟨as, nw_of C.fr C.at_, C.all.imp fun _ _ k => Mono.mono (nw_sub (Same.new C.fr) (Same.refl _)) k⟩
end
theorem lit1 {G H : Hp} {t e : Addr} {a b : Int} (g : ∀ c, H c = none → G c = none) (h1 : H t = none) (h2 : upd H t (.tup [.int a, .int b]) e = none) :
    StepsAt (Nw G (upd (upd H t (.tup [.int a, .int b])) e (.lst [.ref t]))) e [(a, b)] :=
  ⟨[t], nw_of (g _ ((Same.new h1).free h2)) upd_same, .cons (nw_of (g _ h1) (keepN upd_same h2)) .nil⟩
theorem lit3 {G H : Hp} {t1 t2 t3 e : Addr} {a b c d x y : Int} (g : ∀ c, H c = none → G c = none) (h1 : H t1 = none) (h2 : upd H t1 (.tup [.int a, .int b]) t2 = none) (h3 : upd (upd H t1 (.tup [.int a, .int b])) t2 (.tup [.int c, .int d]) t3 = none)
    (h4 : upd (upd (upd H t1 (.tup [.int a, .int b])) t2 (.tup [.int c, .int d])) t3 (.tup [.int x, .int y]) e = none) :
    StepsAt (Nw G (upd (upd (upd (upd H t1 (.tup [.int a, .int b])) t2 (.tup [.int c, .int d])) t3 (.tup [.int x, .int y])) e (.lst [.ref t1, .ref t2, .ref t3]))) e [(a, b), (c, d), (x, y)] := by
  have f2 := (Same.new (o := .tup [.int a, .int b]) h1).free h2
  have f3 := (Same.new (o := .tup [.int a, .int b]) h1).free ((Same.new h2).free h3)
  have f4 := (Same.new (o := .tup [.int a, .int b]) h1).free ((Same.new h2).free ((Same.new h3).free h4))
  exact ⟨[t1, t2, t3], nw_of (g _ f4) upd_same, .cons (nw_of (g _ h1) (keepN (keepN (keepN upd_same h2) h3) h4)) (.cons (nw_of (g _ f2) (keepN (keepN upd_same h3) h4)) (.cons (nw_of (g _ f3) (keepN upd_same h4)) .nil))⟩
theorem same3 {H : Hp} {t1 t2 t3 e : Addr} {o1 o2 o3 o4 : HO} (h1 : H t1 = none) (h2 : upd H t1 o1 t2 = none) (h3 : upd (upd H t1 o1) t2 o2 t3 = none) (h4 : upd (upd (upd H t1 o1) t2 o2) t3 o3 e = none) : Same H (upd (upd (upd (upd H t1 o1) t2 o2) t3 o3) e o4) :=
  (((Same.new h1).trans (Same.new h2)).trans (Same.new h3)).trans (Same.new h4)
def FoursAt (H : Hp) (a : Addr) (l : List (List Int)) : Prop := ∃ as : List Addr, H a = some (.lst (as.map V.ref)) ∧ All2 (FI H) as l
theorem FoursAt.mono {H H' : Hp} {a : Addr} {l : List (List Int)} (s : ∀ b o, H b = some o → H' b = some o) (h : FoursAt H a l) : FoursAt H' a l := by
  obtain ⟨ts, h1, h2⟩ := h
  exact ⟨ts, s _ _ h1, h2.imp fun _ _ k => s _ _ k⟩
theorem nw_same (H H' : Hp) : ∀ b o, Nw H H' b = some o → H' b = some o := fun _ _ h => (of_nw h).2
theorem pairs_snoc : ∀ (i : Nat) {l : List Int} {a b : Int}, l[2 * i]? = some a → l[2 * i + 1]? = some b → Sa20.pairs (l.take (2 * (i + 1))) = Sa20.pairs (l.take (2 * i)) ++ [(a, b)]
  | 0, x :: y :: l, a, b, h1, h2 => by
    simp at h1 h2; subst h1; subst h2; rfl
  | 0, [], a, b, h1, _ => by simp at h1
  | 0, [x], a, b, _, h2 => by simp at h2
  | i + 1, [], a, b, h1, _ => by simp at h1
  | i + 1, [x], a, b, h1, _ => by simp at h1
  | i + 1, x :: y :: l, a, b, h1, h2 => by
    have ih := pairs_snoc i (l := l) (a := a) (b := b) (by simpa [Nat.mul_succ] using h1) (by simpa [Nat.mul_succ] using h2)
    have e1 : 2 * (i + 1 + 1) = 2 * (i + 1) + 2 := by omega
    have e2 : 2 * (i + 1) = 2 * i + 2 := by omega
    rw [e1]
    show (x, y) :: Sa20.pairs (l.take (2 * (i + 1))) = Sa20.pairs ((x :: y :: l).take (2 * (i + 1))) ++ [(a, b)]
    rw [ih, e2]; rfl
theorem triples_snoc : ∀ (i : Nat) {l : List Sa20.Step}, 3 * (i + 1) ≤ l.length → triples (l.take (3 * (i + 1))) = triples (l.take (3 * i)) ++ [(l.drop (3 * i)).take 3]
  | 0, a :: b :: c :: l, _ => rfl
  | 0, [], h => by simp at h
  | 0, [_], h => by simp at h
  | 0, [_, _], h => by simp at h
  | i + 1, [], h => by simp at h
  | i + 1, [_], h => by simp at h; omega
  | i + 1, [_, _], h => by simp at h; omega
  | i + 1, a :: b :: c :: l, h => by
    have ih := triples_snoc i (l := l) (by simp at h; omega)
    have e1 : 3 * (i + 1 + 1) = 3 * (i + 1) + 3 := by omega
    have e2 : 3 * (i + 1) = 3 * i + 3 := by omega
    rw [e1]
    show [a, b, c] :: triples (l.take (3 * (i + 1))) = triples ((a :: b :: c :: l).take (3 * (i + 1))) ++ [((a :: b :: c :: l).drop (3 * (i + 1))).take 3]
    rw [ih, e2]; rfl
theorem fours_snoc : ∀ (i : Nat) {l : List Int}, 4 * (i + 1) ≤ l.length → fours (l.take (4 * (i + 1))) = fours (l.take (4 * i)) ++ [(l.drop (4 * i)).take 4]
  | 0, a :: b :: c :: d :: l, _ => rfl
  | 0, [], h => by simp at h
  | 0, [_], h => by simp at h
  | 0, [_, _], h => by simp at h
  | 0, [_, _, _], h => by simp at h
  | i + 1, [], h => by simp at h
  | i + 1, [_], h => by simp at h; omega
  | i + 1, [_, _], h => by simp at h; omega
  | i + 1, [_, _, _], h => by simp at h; omega
  | i + 1, a :: b :: c :: d :: l, h => by
    have ih := fours_snoc i (l := l) (by simp at h; omega)
    have e1 : 4 * (i + 1 + 1) = 4 * (i + 1) + 4 := by omega
    have e2 : 4 * (i + 1) = 4 * i + 4 := by omega
    rw [e1]
    show [a, b, c, d] :: fours (l.take (4 * (i + 1))) = fours ((a :: b :: c :: d :: l).take (4 * (i + 1))) ++ [((a :: b :: c :: d :: l).drop (4 * (i + 1))).take 4]
    rw [ih, e2]; rfl
def spStepsOf : Sp := fun vs H Q _ => ∃ a l, vs = [.ref a] ∧ H a = some (.lst (izs l)) ∧ l.length % 2 = 0 ∧ l.length ≤ 48 ∧ ∀ H' p, Same H H' → StepsAt (Nw H H') p (Sa20.pairs l) → Q (.ref p) H'
def spLinesOf : Sp := fun vs H Q _ => ∃ a l, vs = [.ref a] ∧ H a = some (.lst (izs l)) ∧ l.length % 2 = 0 ∧ l.length ≤ 48 ∧ ∀ H' p, Same H H' → PiecesAt (Nw H H') p ((Sa20.pairs l).map fun s => [s]) → Q (.ref p) H'
def spCurvesOf : Sp := fun vs H Q _ => ∃ a l, vs = [.ref a] ∧ H a = some (.lst (izs l)) ∧ l.length % 6 = 0 ∧ l.length ≤ 48 ∧ ∀ H' p, Same H H' → PiecesAt (Nw H H') p (triples (Sa20.pairs l)) → Q (.ref p) H'
def spFoursOf : Sp := fun vs H Q _ => ∃ a l, vs = [.ref a] ∧ H a = some (.lst (izs l)) ∧ l.length % 4 = 0 ∧ l.length ≤ 48 ∧ ∀ H' p, Same H H' → FoursAt (Nw H H') p (fours l) → Q (.ref p) H'
theorem cut_refs (ts : List Addr) (i : Nat) (j : Nat) (h : i + j ≤ ts.length) : cutV (ts.map V.ref) (some (i : Int)) (some ((i + j : Nat) : Int)) = ((ts.drop i).take j).map V.ref := by
  unfold cutV
  rw [HT.sIx_nat, HT.sIx_nat, List.length_map, Nat.min_eq_left (by omega), Nat.min_eq_left (by omega), Nat.add_sub_cancel_left, List.map_take, List.map_drop]
theorem All2.drop {α β : Type} {F : α → β → Prop} : ∀ {l : List α} {m : List β} (n : Nat), All2 F l m → All2 F (l.drop n) (m.drop n)
  | _, _, 0, h => h
  | _, _, _ + 1, .nil => .nil
  | _, _, n + 1, .cons _ t => All2.drop n t
theorem All2.take {α β : Type} {F : α → β → Prop} : ∀ {l : List α} {m : List β} (n : Nat), All2 F l m → All2 F (l.take n) (m.take n)
  | _, _, 0, _ => .nil
  | _, _, _ + 1, .nil => .nil
  | _, _, n + 1, .cons r t => .cons r (All2.take n t)
theorem curves_length : ∀ m : List Sa20.Step, (Sa20.curves m).length = m.length / 3
  | [] => rfl
  | [_] => by simp [Sa20.curves]
  | [_, _] => by simp [Sa20.curves]
  | a :: b :: c :: l => by
    show (Sa20.curves l).length + 1 = (l.length + 3) / 3
    rw [curves_length l]; omega
theorem def_steps_of (T : Txt P w K mg CR CS) : Def P w K mg base "steps_of" 1 ["numbers"] spStepsOf := by
  refine T.f_steps_of.mk sc_steps_of (fun _ _ _ _ _ _ us hl => match us, hl with | [_], _ => rfl) (fun vs H Q E h => ?_) (fun f cdv A outer s H vs Q E hr h => ?_)
  · obtain ⟨a, l, rfl, ha, h2, hl48, k⟩ := h; rfl
  · obtain ⟨a, l, rfl, ha, h2, hl48, k⟩ := h
    refine ⟨_, (pss_one (ps_ret (pe_lc (own := [("i", 1)]) rfl sc_steps_of.nd (pi_range3 rfl T.b_range (pa_cons pe_int (pa_cons (pe_callB call_lenR rfl T.b_len bt_len (pa_cons (pv 0) pa_nil)) (pa_cons pe_int pa_nil)))) (blkOk_by rfl) (fun _ _ _ _ _ => (pg_name (i := 1) sc_steps_of.nd rfl (Or.inl rfl))) (fun _ _ _ _ _ => pts_nil) (fun _ _ _ _ _ => (pe_tup (pa_cons (pe_ix (r := rIxL K) ix_list (pv 0) (pv 1) (fun _ _ => rfl)) (pa_cons (pe_ix (r := rIxL K) ix_list (pv 0) (pe_op op_add (pv 1) pe_int) (fun _ _ => rfl)) pa_nil))))))), ?_⟩
    repeat walk_at "r2"
    refine rd_it3 (rgC (m := l.length / 2) (.inl rfl) (by rw [ints_len]; omega) (by omega)) ?_
    intro Dl hD
    have hz : (sizeLine : Nat) = 16777216 := sizeLine_eq
    refine lcL_rng (fun i H' => ∃ as, ColAt FS H Dl H' as (Sa20.pairs (l.take (2 * i)))) ⟨[], ColAt.start hD (Same.refl _)⟩ ?_ ?_
    · rintro i H' hi ⟨as, C⟩
      have ha1 := C.same _ _ ha
      have e1 : l[2 * i]? = some (l.getD (2 * i) 0) := by rw [List.getD_eq_getElem?_getD, List.getElem?_eq_getElem (by omega)]; rfl
      have e2 : l[2 * i + 1]? = some (l.getD (2 * i + 1) 0) := by rw [List.getD_eq_getElem?_getD, List.getElem?_eq_getElem (by omega)]; rfl
      repeat walk_at "r2"
      refine rd_ixL (SqL.of ha1) (v := .int (l.getD (2 * i) 0)) (at_of (j := 2 * i) (by omega) (by unfold izs; rw [List.getElem?_map, e1]; rfl)) ?_
      repeat walk_at "r2"
      refine rd_ixL (SqL.of ha1) (v := .int (l.getD (2 * i + 1) 0)) (at_of (j := 2 * i + 1) (by omega) (by unfold izs; rw [List.getElem?_map, e2]; rfl)) ?_
      repeat walk_at "r2"
      refine ⟨by show 2 ≤ sizeLine; decide, fun t ht => ?_⟩
      have hlen : as.length = i := by rw [C.all.length, pairs_length, List.length_take]; omega
      refine ⟨_, keepN C.at_ ht, by rw [List.length_map]; omega, as ++ [t], ?_⟩
      rw [pairs_snoc i e1 e2]
      exact C.push (Same.new ht) (nw_of (C.free ht) upd_same)
    · rintro H' ⟨as, C⟩
      have e : l.take (2 * (l.length / 2)) = l := List.take_of_length_le (by omega)
      rw [e] at C
      exact k H' Dl C.same C.done
theorem def_lines_of (T : Txt P w K mg CR CS) : Def P w K mg base "lines_of" 2 ["numbers"] spLinesOf := by
  refine T.f_lines_of.mk sc_lines_of (fun _ _ _ _ _ _ us hl => match us, hl with | [_], _ => rfl) (fun vs H Q E h => ?_) (fun f cdv A outer s H vs Q E hr h => ?_)
  · obtain ⟨a, l, rfl, ha, h2, hl48, k⟩ := h; rfl
  · obtain ⟨a, l, rfl, ha, h2, hl48, k⟩ := h
    refine ⟨_, (pss_one (ps_ret (pe_lc (own := [("step", 1)]) rfl sc_lines_of.nd (pi_list (pe_callD (def_steps_of T) (hr.mono (by decide)) rfl (pa_cons (pv 0) pa_nil))) (blkOk_by rfl) (fun _ _ _ _ _ => (pg_name (i := 1) sc_lines_of.nd rfl (Or.inl rfl))) (fun _ _ _ _ _ => pts_nil) (fun _ _ _ _ _ => (pe_lst (pa_cons (pv 1) pa_nil)))))), ?_⟩
    repeat walk_at "r2"
    refine ⟨a, l, rfl, ha, h2, hl48, fun H1 p s1 hp => ?_⟩
    obtain ⟨ts, hp1, hp2⟩ := hp
    have hp3 := nw_same _ _ _ _ hp1
    have hz : (sizeLine : Nat) = 16777216 := sizeLine_eq
    repeat walk_at "r2"
    intro Dl hD
    refine lcL_list (a := p) (xs := ts.map V.ref) (fun i H' => ∃ as, ColAt StepsAt H Dl H' as (((Sa20.pairs l).take i).map fun s => [s]) ∧ Same H1 H') ⟨[], ColAt.start hD s1, Same.new hD⟩ (fun i H' _ ⟨_, _, s⟩ => SqL.of (s _ _ hp3)) ?_ ?_
    · rintro i x H' hx ⟨as, C, s⟩
      obtain ⟨t, ht, rfl⟩ := refs_get hx
      obtain ⟨st, hst, htu⟩ := hp2.at ht
      have hi : i < (Sa20.pairs l).length := (List.getElem?_eq_some_iff.mp hst).1
      rw [pairs_length] at hi
      repeat walk_at "r2"
      refine ⟨by show 1 ≤ sizeLine; decide, fun e he => ?_⟩
      have hlen : as.length = i := by rw [C.all.length, List.length_map, List.length_take, pairs_length]; omega
      refine ⟨_, keepN C.at_ he, by rw [List.length_map]; omega, as ++ [e], ?_, ?_⟩
      · rw [take_snoc hst, List.map_append]
        refine C.push (Same.new he) ⟨[t], nw_of (C.free he) upd_same, .cons (nw_of ?_ (keepN (s _ _ (of_nw htu).2) he)) .nil⟩
        rw [upd_ne (fun q => ?_)]
        · exact (of_nw htu).1
        · have := (of_nw htu).2
          rw [q, hD] at this; cases this
      · intro b o h
        rw [upd_ne (ne_of_none h hD)]
        exact keepN (s _ _ h) he
    · rintro H' ⟨as, C, s⟩
      have e : (Sa20.pairs l).take (ts.map V.ref).length = Sa20.pairs l := List.take_of_length_le (by rw [List.length_map, hp2.length]; exact Nat.le_refl _)
      rw [e] at C
      exact k H' Dl C.same C.done
theorem def_curves_of (T : Txt P w K mg CR CS) : Def P w K mg base "curves_of" 2 ["numbers"] spCurvesOf := by
  refine T.f_curves_of.mk sc_curves_of (fun _ _ _ _ _ _ us hl => match us, hl with | [_], _ => rfl) (fun vs H Q E h => ?_) (fun f cdv A outer s H vs Q E hr h => ?_)
  · obtain ⟨a, l, rfl, ha, h2, hl48, k⟩ := h; rfl
  · obtain ⟨a, l, rfl, ha, h2, hl48, k⟩ := h
    refine ⟨_, (pss_cons (ps_set (i := 1) sc_curves_of.nd rfl (Or.inr rfl) (pe_callD (def_steps_of T) (hr.mono (by decide)) rfl (pa_cons (pv 0) pa_nil))) (pss_one (ps_ret (pe_lc (own := [("i", 2)]) rfl sc_curves_of.nd (pi_range3 rfl T.b_range (pa_cons pe_int (pa_cons (pe_callB call_lenR rfl T.b_len bt_len (pa_cons (pv 1) pa_nil)) (pa_cons pe_int pa_nil)))) (blkOk_by rfl) (fun _ _ _ _ _ => (pg_name (i := 2) sc_curves_of.nd rfl (Or.inl rfl))) (fun _ _ _ _ _ => pts_nil) (fun _ _ _ _ _ => (pe_slice (r := rSlL K) sl_list (pv 1) (po_some (pv 2)) (po_some (pe_op op_add (pv 2) pe_int)))))))), ?_⟩
    repeat walk_at "r2"
    refine ⟨a, l, rfl, ha, by omega, hl48, fun H1 p s1 hp => ?_⟩
    obtain ⟨ts, hp1, hp2⟩ := hp
    have hp3 := nw_same _ _ _ _ hp1
    have hz : (sizeLine : Nat) = 16777216 := sizeLine_eq
    have htl : ts.length = l.length / 2 := by rw [hp2.length, pairs_length]
    repeat walk_at "r2"
    refine rd_it3 (rgC (m := l.length / 6) (.inr (.inl rfl)) (by rw [List.length_map, htl]; omega) (by omega)) ?_
    intro Dl hD
    refine lcL_rng (fun i H' => ∃ as, ColAt StepsAt H Dl H' as (triples ((Sa20.pairs l).take (3 * i))) ∧ Same H1 H') ⟨[], ColAt.start hD s1, Same.new hD⟩ ?_ ?_
    · rintro i H' hi ⟨as, C, s⟩
      have hp4 := s _ _ hp3
      repeat walk_at "r2"
      have ec : cutV (ts.map V.ref) (some (0 + (i : Int) * 3)) (some (0 + (i : Int) * 3 + 3)) = ((ts.drop (3 * i)).take 3).map V.ref := by
        have e1 : (0 + (i : Int) * 3) = ((3 * i : Nat) : Int) := by omega
        have e2 : (0 + (i : Int) * 3 + 3) = ((3 * i + 3 : Nat) : Int) := by omega
        rw [e1, show ((3 * i : Nat) : Int) + 3 = ((3 * i + 3 : Nat) : Int) by omega]
        exact cut_refs ts (3 * i) 3 (by omega)
      rw [ec]
      intro e he
      have hlen : as.length = i := by
        rw [C.all.length]
        have : ∀ m : List Sa20.Step, (triples m).length = m.length / 3 := fun m => by rw [← curves_sg, List.length_map]; exact curves_length m
        rw [this, List.length_take, pairs_length]; omega
      refine ⟨_, keepN C.at_ he, by rw [List.length_map]; omega, as ++ [e], ?_, ?_⟩
      · rw [triples_snoc i (by rw [pairs_length]; omega)]
        refine C.push (Same.new he) ⟨_, nw_of (C.free he) upd_same, ((hp2.drop (3 * i)).take 3).imp fun t st htu => nw_of ?_ (keepN (s _ _ (of_nw htu).2) he)⟩
        rw [upd_ne (fun q => ?_)]
        · exact (of_nw htu).1
        · have := (of_nw htu).2
          rw [q, hD] at this; cases this
      · intro b o h
        rw [upd_ne (ne_of_none h hD)]
        exact keepN (s _ _ h) he
    · rintro H' ⟨as, C, s⟩
      have e : (Sa20.pairs l).take (3 * (l.length / 6)) = Sa20.pairs l := List.take_of_length_le (by rw [pairs_length]; omega)
      rw [e] at C
      exact k H' Dl C.same C.done
theorem def_fours_of (T : Txt P w K mg CR CS) : Def P w K mg base "fours_of" 1 ["numbers"] spFoursOf := by
  refine T.f_fours_of.mk sc_fours_of (fun _ _ _ _ _ _ us hl => match us, hl with | [_], _ => rfl) (fun vs H Q E h => ?_) (fun f cdv A outer s H vs Q E hr h => ?_)
  · obtain ⟨a, l, rfl, ha, h2, hl48, k⟩ := h; rfl
  · obtain ⟨a, l, rfl, ha, h2, hl48, k⟩ := h
    refine ⟨_, (pss_one (ps_ret (pe_lc (own := [("i", 1)]) rfl sc_fours_of.nd (pi_range3 rfl T.b_range (pa_cons pe_int (pa_cons (pe_callB call_lenR rfl T.b_len bt_len (pa_cons (pv 0) pa_nil)) (pa_cons pe_int pa_nil)))) (blkOk_by rfl) (fun _ _ _ _ _ => (pg_name (i := 1) sc_fours_of.nd rfl (Or.inl rfl))) (fun _ _ _ _ _ => pts_nil) (fun _ _ _ _ _ => (pe_slice (r := rSlL K) sl_list (pv 0) (po_some (pv 1)) (po_some (pe_op op_add (pv 1) pe_int))))))), ?_⟩
    repeat walk_at "r2"
    refine rd_it3 (rgC (m := l.length / 4) (.inr (.inr rfl)) (by rw [ints_len]; omega) (by omega)) ?_
    intro Dl hD
    have hz : (sizeLine : Nat) = 16777216 := sizeLine_eq
    refine lcL_rng (fun i H' => ∃ as, ColAt FI H Dl H' as (fours (l.take (4 * i)))) ⟨[], ColAt.start hD (Same.refl _)⟩ ?_ ?_
    · rintro i H' hi ⟨as, C⟩
      have ha1 := C.same _ _ ha
      repeat walk_at "r2"
      have ec : cutV (izs l) (some (0 + (i : Int) * 4)) (some (0 + (i : Int) * 4 + 4)) = izs ((l.drop (4 * i)).take 4) := by
        rw [cut_mid (by omega) (by omega) (by omega)]
        have e1 : (0 + (i : Int) * 4).toNat = 4 * i := by omega
        have e2 : (0 + (i : Int) * 4 + 4).toNat - (0 + (i : Int) * 4).toNat = 4 := by omega
        rw [e2, e1]
      rw [ec]
      intro e he
      have hlen : as.length = i := by rw [C.all.length, fours_length, List.length_take]; omega
      refine ⟨_, keepN C.at_ he, by rw [List.length_map]; omega, as ++ [e], ?_⟩
      rw [fours_snoc i (by omega)]
      exact C.push (Same.new he) (nw_of (C.free he) upd_same)
    · rintro H' ⟨as, C⟩
      have e : l.take (4 * (l.length / 4)) = l := List.take_of_length_le (by omega)
      rw [e] at C
      exact k H' Dl C.same C.done
theorem iteOr {c : Bool} {A B : Prop} (h : c = true → A) (h' : c = false → B) : if c = true then A else B := by cases c with
  | true => exact iteT (h rfl)
  | false => exact iteF (h' rfl)
theorem dN5 {l : List Int} (h : l.length < 2 ∨ ¬ l.length % 2 = 0) : Sa20.drawn 5 l = some none := by
  unfold Sa20.drawn; simp only [if_true]; rw [if_pos (by omega)]
theorem dS5 {l : List Int} (h : ¬ (l.length < 2 ∨ ¬ l.length % 2 = 0)) : Sa20.drawn 5 l = some (some ((Sa20.pairs l).map Sa20.Seg.line)) := by
  unfold Sa20.drawn; simp only [if_true]; rw [if_neg (by omega), List.take_length]
theorem dN67 {k : Nat} {l : List Int} (hk : k = 6 ∨ k = 7) (h : l.length < 1) : Sa20.drawn k l = some none := by
  unfold Sa20.drawn; simp only; rw [if_neg (by omega), if_pos hk, if_pos (by omega)]
theorem dS67 {k : Nat} {l : List Int} (hk : k = 6 ∨ k = 7) (h : ¬ l.length < 1) : Sa20.drawn k l = some (some (Sa20.turns (k == 6) l)) := by
  unfold Sa20.drawn; simp only; rw [if_neg (by omega), if_pos hk, if_neg (by omega)]
theorem dN8 {l : List Int} (h : l.length < 6 ∨ ¬ l.length % 6 = 0) : Sa20.drawn 8 l = some none := by
  unfold Sa20.drawn; simp only; rw [if_neg (by omega), if_neg (by omega), if_pos trivial, if_pos (by omega)]
theorem dS8 {l : List Int} (h : ¬ (l.length < 6 ∨ ¬ l.length % 6 = 0)) : Sa20.drawn 8 l = some (some (Sa20.curves (Sa20.pairs l))) := by
  unfold Sa20.drawn; simp only; rw [if_neg (by omega), if_neg (by omega), if_pos trivial, if_neg (by omega)]
theorem dN24 {l : List Int} (h : l.length < 8 ∨ ¬ l.length % 6 = 2) : Sa20.drawn 24 l = some none := by
  unfold Sa20.drawn; simp only; rw [if_neg (by omega), if_neg (by omega), if_neg (by omega), if_pos trivial, if_pos (by omega)]
theorem dS24 {l : List Int} (h : ¬ (l.length < 8 ∨ ¬ l.length % 6 = 2)) : Sa20.drawn 24 l = some (some (Sa20.curves (Sa20.pairs (l.take (l.length - 2))) ++ (Sa20.pairs (l.drop (l.length - 2))).map Sa20.Seg.line)) := by
  unfold Sa20.drawn; simp only; rw [if_neg (by omega), if_neg (by omega), if_neg (by omega), if_pos trivial, if_neg (by omega), List.take_of_length_le (i := 2) (by rw [List.length_drop]; omega)]
theorem dN25 {l : List Int} (h : l.length < 8 ∨ ¬ l.length % 2 = 0) : Sa20.drawn 25 l = some none := by
  unfold Sa20.drawn; simp only; rw [if_neg (by omega), if_neg (by omega), if_neg (by omega), if_neg (by omega), if_pos trivial, if_pos (by omega)]
theorem dS25 {l : List Int} (h : ¬ (l.length < 8 ∨ ¬ l.length % 2 = 0)) : Sa20.drawn 25 l = some (some ((Sa20.pairs (l.take (l.length - 6))).map Sa20.Seg.line ++ Sa20.curves (Sa20.pairs (l.drop (l.length - 6))))) := by
  unfold Sa20.drawn; simp only; rw [if_neg (by omega), if_neg (by omega), if_neg (by omega), if_neg (by omega), if_pos trivial, if_neg (by omega)]
theorem dN27 {l : List Int} (h : ¬ (4 ≤ l.length ∧ l.length % 4 ≤ 1)) : Sa20.drawn 27 l = some none := by
  unfold Sa20.drawn; simp only; rw [if_neg (by omega), if_neg (by omega), if_neg (by omega), if_neg (by omega), if_neg (by omega), if_pos trivial, if_pos (by omega)]
theorem dS27 {l : List Int} (h : 4 ≤ l.length ∧ l.length % 4 ≤ 1) : Sa20.drawn 27 l = some (some (Sa20.flats (if l.length % 4 = 1 then l.getD 0 0 else 0) (l.drop (l.length % 4)))) := by
  unfold Sa20.drawn; simp only; rw [if_neg (by omega), if_neg (by omega), if_neg (by omega), if_neg (by omega), if_neg (by omega), if_pos trivial, if_neg (by omega)]
  by_cases c : l.length % 4 = 1
  · rw [if_pos c, if_pos c, c, headD_getD]
  · rw [if_neg c, if_neg c, show l.length % 4 = 0 by omega, List.drop_zero]
theorem dN26 {l : List Int} (h : ¬ (4 ≤ l.length ∧ l.length % 4 ≤ 1)) : Sa20.drawn 26 l = some none := by
  unfold Sa20.drawn; simp only; rw [if_neg (by omega), if_neg (by omega), if_neg (by omega), if_neg (by omega), if_neg (by omega), if_neg (by omega), if_pos trivial, if_pos (by omega)]
theorem dS26 {l : List Int} (h : 4 ≤ l.length ∧ l.length % 4 ≤ 1) : Sa20.drawn 26 l = some (some (Sa20.uprights (if l.length % 4 = 1 then l.getD 0 0 else 0) (l.drop (l.length % 4)))) := by
  unfold Sa20.drawn; simp only; rw [if_neg (by omega), if_neg (by omega), if_neg (by omega), if_neg (by omega), if_neg (by omega), if_neg (by omega), if_pos trivial, if_neg (by omega)]
  by_cases c : l.length % 4 = 1
  · rw [if_pos c, if_pos c, c, headD_getD]
  · rw [if_neg c, if_neg c, show l.length % 4 = 0 by omega, List.drop_zero]
theorem dN30 {k : Nat} {l : List Int} (hk : k = 30 ∨ k = 31) (h : ¬ (4 ≤ l.length ∧ l.length % 4 ≤ 1)) : Sa20.drawn k l = some none := by
  unfold Sa20.drawn; simp only; rw [if_neg (by omega), if_neg (by omega), if_neg (by omega), if_neg (by omega), if_neg (by omega), if_neg (by omega), if_neg (by omega), if_pos hk, if_pos (by omega)]
theorem dS30 {k : Nat} {l : List Int} (hk : k = 30 ∨ k = 31) (h : 4 ≤ l.length ∧ l.length % 4 ≤ 1) : Sa20.drawn k l = some (some (Sa20.swings (k == 31) l)) := by
  unfold Sa20.drawn; simp only; rw [if_neg (by omega), if_neg (by omega), if_neg (by omega), if_neg (by omega), if_neg (by omega), if_neg (by omega), if_neg (by omega), if_pos hk, if_neg (by omega)]
theorem dN34 {l : List Int} (h : ¬ l.length = 7) : Sa20.drawn 290 l = some none := by
  unfold Sa20.drawn; simp only [Nat.reduceEqDiff, Nat.reduceAdd, or_self, if_false, if_true]
  split
  · exact absurd rfl h
  · rfl
theorem dS34 {a b c d e f g : Int} : Sa20.drawn 290 [a, b, c, d, e, f, g] = some (some [.curve (a, 0) (b, c) (d, 0), .curve (e, 0) (f, -c) (g, 0)]) := by
  unfold Sa20.drawn; simp only [Nat.reduceEqDiff, Nat.reduceAdd, or_self, if_false, if_true]
theorem dN35 {l : List Int} (h : ¬ l.length = 13) : Sa20.drawn 291 l = some none := by
  unfold Sa20.drawn; simp only [Nat.reduceEqDiff, Nat.reduceAdd, or_self, if_false, if_true]; rw [if_pos h]
theorem dS35 {l : List Int} (h : l.length = 13) : Sa20.drawn 291 l = some (some (Sa20.curves (Sa20.pairs (l.take 12)))) := by
  unfold Sa20.drawn; simp only [Nat.reduceEqDiff, Nat.reduceAdd, or_self, if_false, if_true]; rw [if_neg (by omega)]
theorem dN36 {l : List Int} (h : ¬ l.length = 9) : Sa20.drawn 292 l = some none := by
  unfold Sa20.drawn; simp only [Nat.reduceEqDiff, Nat.reduceAdd, or_self, if_false, if_true]
  split
  · exact absurd rfl h
  · rfl
theorem dS36 {a b c d e f g h i : Int} : Sa20.drawn 292 [a, b, c, d, e, f, g, h, i] = some (some [.curve (a, b) (c, d) (e, 0), .curve (f, 0) (g, h) (i, -(b + d + h))]) := by
  unfold Sa20.drawn; simp only [Nat.reduceEqDiff, Nat.reduceAdd, or_self, if_false, if_true]
theorem dN37 {l : List Int} (h : ¬ l.length = 11) : Sa20.drawn 293 l = some none := by
  unfold Sa20.drawn; simp only [Nat.reduceEqDiff, Nat.reduceAdd, or_self, if_false, if_true]; rw [if_pos h]
theorem dS37 {l : List Int} (h : l.length = 11) : Sa20.drawn 293 l = some (some (Sa20.curves (Sa20.pairs (l.take 10) ++ [if ((Sa20.pairs (l.take 10)).map fun x : Sa20.Step => x.2).sum.natAbs < ((Sa20.pairs (l.take 10)).map fun x : Sa20.Step => x.1).sum.natAbs
      then (l.getD 10 0, -((Sa20.pairs (l.take 10)).map fun x : Sa20.Step => x.2).sum) else (-((Sa20.pairs (l.take 10)).map fun x : Sa20.Step => x.1).sum, l.getD 10 0)]))) := by
  unfold Sa20.drawn; simp only [Nat.reduceEqDiff, Nat.reduceAdd, or_self, if_false, if_true]; rw [if_neg (by omega)]
theorem fours_get : ∀ (i : Nat) {l : List Int} {f : List Int}, (fours l)[i]? = some f → ∃ a b c d, f = [a, b, c, d] ∧ l.drop (4 * i) = a :: b :: c :: d :: l.drop (4 * (i + 1))
  | 0, a :: b :: c :: d :: l, f, h => by
    have h : some [a, b, c, d] = some f := h
    exact ⟨a, b, c, d, (Option.some.inj h).symm, rfl⟩
  | 0, [], f, h => by simp [fours] at h
  | 0, [_], f, h => by simp [fours] at h
  | 0, [_, _], f, h => by simp [fours] at h
  | 0, [_, _, _], f, h => by simp [fours] at h
  | i + 1, [], f, h => by simp [fours] at h
  | i + 1, [_], f, h => by simp [fours] at h
  | i + 1, [_, _], f, h => by simp [fours] at h
  | i + 1, [_, _, _], f, h => by simp [fours] at h
  | i + 1, a :: b :: c :: d :: l, f, h => by
    obtain ⟨x, y, z, u, e1, e2⟩ := fours_get i (l := l) (f := f) (by simpa [fours] using h)
    refine ⟨x, y, z, u, e1, ?_⟩
    have e3 : 4 * (i + 1) = 4 * i + 4 := by omega
    have e4 : 4 * (i + 1 + 1) = 4 * (i + 1) + 4 := by omega
    rw [e4, e3]; exact e2
theorem swings_cons {b : Bool} {x y z u : Int} {r : List Int} (h : r.length ≠ 1) : Sa20.swings b (x :: y :: z :: u :: r) = (if b = true then .curve (x, 0) (y, z) (0, u) else .curve (0, x) (y, z) (u, 0)) :: Sa20.swings (!b) r := by
  cases r with
  | nil => rfl
  | cons e r =>
    cases r with
    | nil => exact absurd rfl h
    | cons e' r => rfl
def spTurns : Sp := fun vs H Q _ => ∃ a l b, vs = [.ref a, .bl b] ∧ H a = some (.lst (izs l)) ∧ l.length ≤ 48 ∧ PcK (if l.length < 1 then some none else some (some (Sa20.turns b l))) H Q
def spSwings : Sp := fun vs H Q _ => ∃ a l b, vs = [.ref a, .bl b] ∧ H a = some (.lst (izs l)) ∧ l.length ≤ 48 ∧ PcK (if ¬ (4 ≤ l.length ∧ l.length % 4 ≤ 1) then some none else some (some (Sa20.swings b l))) H Q
def spBend (g : Int → Int → Int → Int → Int → List Sa20.Step) : Sp := fun vs H Q _ => ∃ fa a b c d e, vs = [.ref fa, .int e] ∧ H fa = some (.lst (izs [a, b, c, d])) ∧ ∀ H' p, Same H H' → StepsAt (Nw H H') p (g a b c d e) → Q (.ref p) H'
theorem lines_sg2 (l : List Sa20.Step) : (l.map Sa20.Seg.line).map sg = l.map fun s => [s] := lines_sg l
theorem triples_length (m : List Sa20.Step) : (triples m).length = m.length / 3 := by rw [← curves_sg, List.length_map]; exact curves_length m
theorem def_lines (T : Txt P w K mg CR CS) : Def P w K mg base "lines" 3 ["numbers"] (spPieces 5) := by
  refine T.f_lines.mk sc_lines (fun _ _ _ _ _ _ us hl => match us, hl with | [_], _ => rfl) (fun vs H Q E h => ?_) (fun f cdv A outer s H vs Q E hr h => ?_)
  · obtain ⟨a, l, rfl, ha, hl48, k⟩ := h; rfl
  · obtain ⟨a, l, rfl, ha, hl48, k⟩ := h
    refine ⟨_, (pss_cons (ps_if (PW.pt (pw_or (pt_cmpR op_lt (pe_callB call_lenR rfl T.b_len bt_len (pa_cons (pv 0) pa_nil)) pe_int (nomark _)) (pw_or1 (pt_cmpR op_ne (pe_op op_mod (pe_callB call_lenR rfl T.b_len bt_len (pa_cons (pv 0) pa_nil)) pe_int) pe_int (nomark _))))) (pss_one (ps_ret pe_non)) pss_nil) (pss_one (ps_ret (pe_callD (def_lines_of T) (hr.mono (by decide)) rfl (pa_cons (pv 0) pa_nil))))), ?_⟩
    repeat walk_at "r2"
    refine iteD (fun h1 => ?_) (fun h1 => ?_)
    · rw [ints_len] at h1
      refine iteT ?_
      repeat walk_at "r2"
      exact k.bad (dN5 (.inl (by omega))) _ (Same.refl _)
    rw [ints_len] at h1
    repeat walk_at "r2"
    refine iteN (fun h2 => ?_) (fun h2 => ?_)
    · rw [ints_len] at h2
      repeat walk_at "r2"
      exact k.bad (dN5 (.inr (by omega))) _ (Same.refl _)
    rw [ints_len] at h2
    repeat walk_at "r2"
    exact ⟨a, l, rfl, ha, by omega, hl48, k.good (dS5 (by omega)) (lines_sg _)⟩
theorem def_lines_in_turn (T : Txt P w K mg CR CS) : Def P w K mg base "lines_in_turn" 2 ["numbers", "along_x"] spTurns := by
  refine T.f_lines_in_turn.mk sc_lines_in_turn (fun _ _ _ _ _ _ us hl => match us, hl with | [_, _], _ => rfl) (fun vs H Q E h => ?_) (fun f cdv A outer s H vs Q E hr h => ?_)
  · obtain ⟨a, l, b, rfl, ha, hl48, k⟩ := h; rfl
  · obtain ⟨a, l, b, rfl, ha, hl48, k⟩ := h
    refine ⟨_, (pss_cons (ps_if (pt_cmpR op_lt (pe_callB call_lenR rfl T.b_len bt_len (pa_cons (pv 0) pa_nil)) pe_int (nomark _)) (pss_one (ps_ret pe_non)) pss_nil) (pss_cons (ps_set (i := 2) sc_lines_in_turn.nd rfl (Or.inl rfl) (pe_lst pa_nil)) (pss_cons (ps_for PassesOwn.never rfl (pi_list (pv 0)) (pg_name (i := 3) sc_lines_in_turn.nd rfl (Or.inl rfl)) (pss_cons (ps_expr (pe_bm PySem.F.plainAttrs_list PySem.F.slot_list_append PySem.F.type_list_append mt_append (pv 2) (pa_cons (pe_ifExp (pt_val (pv 1)) (pe_lst (pa_cons (pe_tup (pa_cons (pv 3) (pa_cons pe_int pa_nil))) pa_nil)) (pe_lst (pa_cons (pe_tup (pa_cons pe_int (pa_cons (pv 3) pa_nil))) pa_nil))) pa_nil))) (pss_one (ps_set (i := 1) sc_lines_in_turn.nd rfl (Or.inl rfl) (pe_not (pv 1)))))) (pss_one (ps_ret (pv 2)))))), ?_⟩
    repeat walk_at "r2"
    refine iteD (fun h1 => ?_) (fun h1 => ?_)
    · rw [ints_len] at h1
      repeat walk_at "r2"
      exact k.bad (if_pos (by omega)) _ (Same.refl _)
    rw [ints_len] at h1
    have hz : (sizeLine : Nat) = 16777216 := sizeLine_eq
    have k' := k.good (if_neg (by omega)) rfl
    repeat walk_at "r2"
    refine ⟨Nat.zero_le _, fun p hp => ?_⟩
    have ha1 := keepN (o := .lst []) ha hp
    repeat walk_at "r2"
    refine loop_list (xs := izs l) (fun i σ H' => ∃ b' v3 as pre, σ = [some (.ref a), some (.bl b'), some (.ref p), v3] ∧ ColAt StepsAt H p H' as pre ∧ pre.length = i ∧ (Sa20.turns b l).map sg = pre ++ (Sa20.turns b' (l.drop i)).map sg) ?_ ?_ ?_ ?_
    · exact ⟨b, none, [], [], rfl, ColAt.start hp (Same.refl _), rfl, rfl⟩
    · rintro i σ H' _ ⟨_, _, _, _, _, C, _⟩
      exact SqL.of (C.same _ _ ha)
    · rintro i y σ H' hi ⟨b', v3, as, pre, rfl, C, hpl, hpr⟩
      obtain ⟨z, hzz, rfl⟩ := ints_get hi
      have hil : i < l.length := (List.getElem?_eq_some_iff.mp hzz).1
      have edr : l.drop i = z :: l.drop (i + 1) := by
        rw [List.drop_eq_getElem_cons hil]
        rw [List.getElem?_eq_getElem hil] at hzz
        rw [Option.some.inj hzz]
      rw [edr] at hpr
      have hlen : as.length = i := by rw [C.all.length, hpl]
      repeat walk_at "r2"
      refine ⟨ty_list C.at_, ?_⟩
      repeat walk_at "r2"
      cases b' with
      | true =>
        refine iteT ?_
        repeat walk_at "r2"
        refine ⟨by show 2 ≤ sizeLine; decide, fun t ht => ?_⟩
        repeat walk_at "r2"
        refine ⟨by show 1 ≤ sizeLine; decide, fun e he => ?_⟩
        repeat walk_at "r2"
        refine rd_append (keepN (keepN C.at_ ht) he) (by rw [List.length_map]; omega) ?_
        repeat walk_at "r2"
        exact ⟨false, _, as ++ [e], pre ++ [[(z, 0)]], rfl, C.push ((Same.new ht).trans (Same.new he)) (lit1 (fun c h => C.free h) ht he), by rw [List.length_append, hpl]; rfl, by rw [hpr, List.append_assoc]; rfl⟩
      | false =>
        refine iteF ?_
        repeat walk_at "r2"
        refine ⟨by show 2 ≤ sizeLine; decide, fun t ht => ?_⟩
        repeat walk_at "r2"
        refine ⟨by show 1 ≤ sizeLine; decide, fun e he => ?_⟩
        repeat walk_at "r2"
        refine rd_append (keepN (keepN C.at_ ht) he) (by rw [List.length_map]; omega) ?_
        repeat walk_at "r2"
        exact ⟨true, _, as ++ [e], pre ++ [[(0, z)]], rfl, C.push ((Same.new ht).trans (Same.new he)) (lit1 (fun c h => C.free h) ht he), by rw [List.length_append, hpl]; rfl, by rw [hpr, List.append_assoc]; rfl⟩
    · rintro σ H' ⟨b', v3, as, pre, rfl, C, hpl, hpr⟩
      rw [ints_len, List.drop_length] at hpr
      have hpr : (Sa20.turns b l).map sg = pre ++ [] := hpr
      rw [List.append_nil] at hpr
      rw [← hpr] at C
      repeat walk_at "r2"
      exact k' _ _ C.same C.done
theorem def_lines_from_x (T : Txt P w K mg CR CS) : Def P w K mg base "lines_from_x" 3 ["numbers"] (spPieces 6) := by
  refine T.f_lines_from_x.mk sc_lines_from_x (fun _ _ _ _ _ _ us hl => match us, hl with | [_], _ => rfl) (fun vs H Q E h => ?_) (fun f cdv A outer s H vs Q E hr h => ?_)
  · obtain ⟨a, l, rfl, ha, hl48, k⟩ := h; rfl
  · obtain ⟨a, l, rfl, ha, hl48, k⟩ := h
    refine ⟨_, (pss_one (ps_ret (pe_callD (def_lines_in_turn T) (hr.mono (by decide)) rfl (pa_cons (pv 0) (pa_cons pe_bl pa_nil))))), ?_⟩
    repeat walk_at "r2"
    refine ⟨a, l, true, rfl, ha, hl48, ?_⟩
    by_cases c : l.length < 1
    · rw [dN67 (by omega) c] at k; rw [if_pos c]; exact k
    · rw [dS67 (by omega) c] at k; rw [if_neg c]; exact k
theorem def_lines_from_y (T : Txt P w K mg CR CS) : Def P w K mg base "lines_from_y" 3 ["numbers"] (spPieces 7) := by
  refine T.f_lines_from_y.mk sc_lines_from_y (fun _ _ _ _ _ _ us hl => match us, hl with | [_], _ => rfl) (fun vs H Q E h => ?_) (fun f cdv A outer s H vs Q E hr h => ?_)
  · obtain ⟨a, l, rfl, ha, hl48, k⟩ := h; rfl
  · obtain ⟨a, l, rfl, ha, hl48, k⟩ := h
    refine ⟨_, (pss_one (ps_ret (pe_callD (def_lines_in_turn T) (hr.mono (by decide)) rfl (pa_cons (pv 0) (pa_cons pe_bl pa_nil))))), ?_⟩
    repeat walk_at "r2"
    refine ⟨a, l, false, rfl, ha, hl48, ?_⟩
    by_cases c : l.length < 1
    · rw [dN67 (by omega) c] at k; rw [if_pos c]; exact k
    · rw [dS67 (by omega) c] at k; rw [if_neg c]; exact k
theorem def_curves (T : Txt P w K mg CR CS) : Def P w K mg base "curves" 3 ["numbers"] (spPieces 8) := by
  refine T.f_curves.mk sc_curves (fun _ _ _ _ _ _ us hl => match us, hl with | [_], _ => rfl) (fun vs H Q E h => ?_) (fun f cdv A outer s H vs Q E hr h => ?_)
  · obtain ⟨a, l, rfl, ha, hl48, k⟩ := h; rfl
  · obtain ⟨a, l, rfl, ha, hl48, k⟩ := h
    refine ⟨_, (pss_cons (ps_if (PW.pt (pw_or (pt_cmpR op_lt (pe_callB call_lenR rfl T.b_len bt_len (pa_cons (pv 0) pa_nil)) pe_int (nomark _)) (pw_or1 (pt_cmpR op_ne (pe_op op_mod (pe_callB call_lenR rfl T.b_len bt_len (pa_cons (pv 0) pa_nil)) pe_int) pe_int (nomark _))))) (pss_one (ps_ret pe_non)) pss_nil) (pss_one (ps_ret (pe_callD (def_curves_of T) (hr.mono (by decide)) rfl (pa_cons (pv 0) pa_nil))))), ?_⟩
    repeat walk_at "r2"
    refine iteD (fun h1 => ?_) (fun h1 => ?_)
    · rw [ints_len] at h1
      refine iteT ?_
      repeat walk_at "r2"
      exact k.bad (dN8 (.inl (by omega))) _ (Same.refl _)
    rw [ints_len] at h1
    repeat walk_at "r2"
    refine iteN (fun h2 => ?_) (fun h2 => ?_)
    · rw [ints_len] at h2
      repeat walk_at "r2"
      exact k.bad (dN8 (.inr (by omega))) _ (Same.refl _)
    rw [ints_len] at h2
    repeat walk_at "r2"
    exact ⟨a, l, rfl, ha, by omega, hl48, k.good (dS8 (by omega)) (curves_sg _)⟩
theorem def_curves_then_line (T : Txt P w K mg CR CS) : Def P w K mg base "curves_then_line" 3 ["numbers"] (spPieces 24) := by
  refine T.f_curves_then_line.mk sc_curves_then_line (fun _ _ _ _ _ _ us hl => match us, hl with | [_], _ => rfl) (fun vs H Q E h => ?_) (fun f cdv A outer s H vs Q E hr h => ?_)
  · obtain ⟨a, l, rfl, ha, hl48, k⟩ := h; rfl
  · obtain ⟨a, l, rfl, ha, hl48, k⟩ := h
    refine ⟨_, (pss_cons (ps_if (PW.pt (pw_or (pt_cmpR op_lt (pe_callB call_lenR rfl T.b_len bt_len (pa_cons (pv 0) pa_nil)) pe_int (nomark _)) (pw_or1 (pt_cmpR op_ne (pe_op op_mod (pe_callB call_lenR rfl T.b_len bt_len (pa_cons (pv 0) pa_nil)) pe_int) pe_int (nomark _))))) (pss_one (ps_ret pe_non)) pss_nil) (pss_one (ps_ret (pe_op op_cat (pe_callD (def_curves_of T) (hr.mono (by decide)) rfl (pa_cons (pe_slice sl_list (pv 0) po_none (po_some (pe_un un_neg pe_int))) pa_nil)) (pe_callD (def_lines_of T) (hr.mono (by decide)) rfl (pa_cons (pe_slice sl_list (pv 0) (po_some (pe_un un_neg pe_int)) po_none) pa_nil)))))), ?_⟩
    repeat walk_at "r2"
    have hz : (sizeLine : Nat) = 16777216 := sizeLine_eq
    refine iteD (fun h1 => ?_) (fun h1 => ?_)
    · rw [ints_len] at h1
      refine iteT ?_
      repeat walk_at "r2"
      exact k.bad (dN24 (.inl (by omega))) _ (Same.refl _)
    rw [ints_len] at h1
    repeat walk_at "r2"
    refine iteN (fun h2 => ?_) (fun h2 => ?_)
    · rw [ints_len] at h2
      repeat walk_at "r2"
      exact k.bad (dN24 (.inr (by omega))) _ (Same.refl _)
    rw [ints_len] at h2
    have c1 : cutV (izs l) none (some (-2)) = izs (l.take (l.length - 2)) := by rw [cut_toN (by omega)]; congr 2; omega
    have c2 : cutV (izs l) (some (-2)) none = izs (l.drop (l.length - 2)) := by rw [cut_fromN (by omega)]; congr 2; omega
    repeat walk_at "r2"
    rw [c1]
    intro n1 hn1
    have ha1 := keepN (o := .lst (izs (l.take (l.length - 2)))) ha hn1
    repeat walk_at "r2"
    refine ⟨n1, _, rfl, upd_same, by rw [List.length_take]; omega, by rw [List.length_take]; omega, fun H1 p1 s1 hp1 => ?_⟩
    have ha2 := s1 _ _ ha1
    repeat walk_at "r2"
    rw [c2]
    intro n2 hn2
    repeat walk_at "r2"
    refine ⟨n2, _, rfl, upd_same, by rw [List.length_drop]; omega, by rw [List.length_drop]; omega, fun H2 p2 s2 hp2 => ?_⟩
    obtain ⟨as1, ha3, hb3⟩ := hp1
    obtain ⟨as2, ha4, hb4⟩ := hp2
    have sA : Same H H1 := (Same.new hn1).trans s1
    have sB : Same H1 H2 := (Same.new hn2).trans s2
    have w1 : (Nw H H2) p1 = some (.lst (as1.map V.ref)) := nw_sub (Same.new hn1) sB _ _ ha3
    have w2 : (Nw H H2) p2 = some (.lst (as2.map V.ref)) := nw_sub (sA.trans (Same.new hn2)) (Same.refl _) _ _ ha4
    have ll1 : as1.length ≤ 48 := by rw [hb3.length]; rw [triples_length, pairs_length, List.length_take]; omega
    have ll2 : as2.length ≤ 48 := by rw [hb4.length]; rw [List.length_map, pairs_length, List.length_drop]; omega
    repeat walk_at "r2"
    refine rd_cat (of_nw w1).2 (of_nw w2).2 (by rw [List.length_map, List.length_map]; omega) ?_
    intro p hp
    refine k.good (dS24 (by omega)) (by rw [List.map_append, curves_sg, lines_sg]) _ _ ((sA.trans sB).trans (Same.new hp)) ⟨as1 ++ as2, nw_of ((sA.trans sB).free hp) (by rw [upd_same, List.map_append]), ?_⟩
    exact All2.app (hb4.imp fun _ _ q => q.mono (nw_sub (sA.trans (Same.new hn2)) (Same.new hp))) (hb3.imp fun _ _ q => q.mono (nw_sub (Same.new hn1) (sB.trans (Same.new hp))))
theorem def_lines_then_curve (T : Txt P w K mg CR CS) : Def P w K mg base "lines_then_curve" 3 ["numbers"] (spPieces 25) := by
  refine T.f_lines_then_curve.mk sc_lines_then_curve (fun _ _ _ _ _ _ us hl => match us, hl with | [_], _ => rfl) (fun vs H Q E h => ?_) (fun f cdv A outer s H vs Q E hr h => ?_)
  · obtain ⟨a, l, rfl, ha, hl48, k⟩ := h; rfl
  · obtain ⟨a, l, rfl, ha, hl48, k⟩ := h
    refine ⟨_, (pss_cons (ps_if (PW.pt (pw_or (pt_cmpR op_lt (pe_callB call_lenR rfl T.b_len bt_len (pa_cons (pv 0) pa_nil)) pe_int (nomark _)) (pw_or1 (pt_cmpR op_ne (pe_op op_mod (pe_callB call_lenR rfl T.b_len bt_len (pa_cons (pv 0) pa_nil)) pe_int) pe_int (nomark _))))) (pss_one (ps_ret pe_non)) pss_nil) (pss_one (ps_ret (pe_op op_cat (pe_callD (def_lines_of T) (hr.mono (by decide)) rfl (pa_cons (pe_slice sl_list (pv 0) po_none (po_some (pe_un un_neg pe_int))) pa_nil)) (pe_callD (def_curves_of T) (hr.mono (by decide)) rfl (pa_cons (pe_slice sl_list (pv 0) (po_some (pe_un un_neg pe_int)) po_none) pa_nil)))))), ?_⟩
    repeat walk_at "r2"
    have hz : (sizeLine : Nat) = 16777216 := sizeLine_eq
    refine iteD (fun h1 => ?_) (fun h1 => ?_)
    · rw [ints_len] at h1
      refine iteT ?_
      repeat walk_at "r2"
      exact k.bad (dN25 (.inl (by omega))) _ (Same.refl _)
    rw [ints_len] at h1
    repeat walk_at "r2"
    refine iteN (fun h2 => ?_) (fun h2 => ?_)
    · rw [ints_len] at h2
      repeat walk_at "r2"
      exact k.bad (dN25 (.inr (by omega))) _ (Same.refl _)
    rw [ints_len] at h2
    have c1 : cutV (izs l) none (some (-6)) = izs (l.take (l.length - 6)) := by rw [cut_toN (by omega)]; congr 2; omega
    have c2 : cutV (izs l) (some (-6)) none = izs (l.drop (l.length - 6)) := by rw [cut_fromN (by omega)]; congr 2; omega
    repeat walk_at "r2"
    rw [c1]
    intro n1 hn1
    have ha1 := keepN (o := .lst (izs (l.take (l.length - 6)))) ha hn1
    repeat walk_at "r2"
    refine ⟨n1, _, rfl, upd_same, by rw [List.length_take]; omega, by rw [List.length_take]; omega, fun H1 p1 s1 hp1 => ?_⟩
    have ha2 := s1 _ _ ha1
    repeat walk_at "r2"
    rw [c2]
    intro n2 hn2
    repeat walk_at "r2"
    refine ⟨n2, _, rfl, upd_same, by rw [List.length_drop]; omega, by rw [List.length_drop]; omega, fun H2 p2 s2 hp2 => ?_⟩
    obtain ⟨as1, ha3, hb3⟩ := hp1
    obtain ⟨as2, ha4, hb4⟩ := hp2
    have sA : Same H H1 := (Same.new hn1).trans s1
    have sB : Same H1 H2 := (Same.new hn2).trans s2
    have w1 : (Nw H H2) p1 = some (.lst (as1.map V.ref)) := nw_sub (Same.new hn1) sB _ _ ha3
    have w2 : (Nw H H2) p2 = some (.lst (as2.map V.ref)) := nw_sub (sA.trans (Same.new hn2)) (Same.refl _) _ _ ha4
    have ll1 : as1.length ≤ 48 := by rw [hb3.length]; rw [List.length_map, pairs_length, List.length_take]; omega
    have ll2 : as2.length ≤ 48 := by rw [hb4.length]; rw [triples_length, pairs_length, List.length_drop]; omega
    repeat walk_at "r2"
    refine rd_cat (of_nw w1).2 (of_nw w2).2 (by rw [List.length_map, List.length_map]; omega) ?_
    intro p hp
    refine k.good (dS25 (by omega)) (by rw [List.map_append, lines_sg, curves_sg]) _ _ ((sA.trans sB).trans (Same.new hp)) ⟨as1 ++ as2, nw_of ((sA.trans sB).free hp) (by rw [upd_same, List.map_append]), ?_⟩
    exact All2.app (hb4.imp fun _ _ q => q.mono (nw_sub (sA.trans (Same.new hn2)) (Same.new hp))) (hb3.imp fun _ _ q => q.mono (nw_sub (Same.new hn1) (sB.trans (Same.new hp))))
theorem swing_step {b : Bool} {x y z u ev : Int} {r : List Int} (h1 : r.length = 1 → ev = r.getD 0 0) (h2 : r.length ≠ 1 → ev = 0) :
    (Sa20.swings b (x :: y :: z :: u :: r)).map sg = (if b = true then [(x, 0), (y, z), (ev, u)] else [(0, x), (y, z), (u, ev)]) :: (Sa20.swings (!b) r).map sg := by
  by_cases c : r.length = 1
  · match r, c with
    | [e], _ =>
      have : ev = e := h1 rfl
      subst this
      cases b <;> rfl
  · have : ev = 0 := h2 c
    subst this
    rw [swings_cons c]
    cases b <;> rfl
theorem fours_take : ∀ l : List Int, fours (l.take (l.length - l.length % 4)) = fours l
  | [] => rfl
  | [_] => rfl
  | [_, _] => rfl
  | [_, _, _] => rfl
  | a :: b :: c :: d :: l => by
    have e : (a :: b :: c :: d :: l).length - (a :: b :: c :: d :: l).length % 4 = (l.length - l.length % 4) + 4 := by simp only [List.length_cons]; omega
    rw [e]
    show [a, b, c, d] :: fours (l.take (l.length - l.length % 4)) = [a, b, c, d] :: fours l
    rw [fours_take l]
theorem def_level_curves (T : Txt P w K mg CR CS) : Def P w K mg base "level_curves" 3 ["numbers"] (spPieces 27) := by
  refine T.f_level_curves.mk sc_level_curves (fun _ _ _ _ _ _ us hl => match us, hl with | [_], _ => rfl) (fun vs H Q E h => ?_) (fun f cdv A outer s H vs Q E hr h => ?_)
  · obtain ⟨a, l, rfl, ha, hl48, k⟩ := h; rfl
  · obtain ⟨a, l, rfl, ha, hl48, k⟩ := h
    refine ⟨_, (pss_cons (ps_if (pt_not (pt_val (pe_callD (def_is_fours_or_one_more T) (hr.mono (by decide)) rfl (pa_cons (pe_callB call_lenR rfl T.b_len bt_len (pa_cons (pv 0) pa_nil)) pa_nil)))) (pss_one (ps_ret pe_non)) pss_nil) (pss_cons (ps_set (i := 1) sc_level_curves.nd rfl (Or.inl rfl) (pe_op op_mod (pe_callB call_lenR rfl T.b_len bt_len (pa_cons (pv 0) pa_nil)) pe_int)) (pss_cons (ps_set (i := 2) sc_level_curves.nd rfl (Or.inl rfl) (pe_ifExp (pt_cmpR op_eq (pv 1) pe_int (nomark _)) (pe_ix ix_list (pv 0) pe_int (fun _ _ => rfl)) pe_int)) (pss_cons (ps_set (i := 3) sc_level_curves.nd rfl (Or.inl rfl) (pe_lst pa_nil)) (pss_cons (ps_for PassesOwn.never rfl (pi_list (pe_callD (def_fours_of T) (hr.mono (by decide)) rfl (pa_cons (pe_slice sl_list (pv 0) (po_some (pv 1)) po_none) pa_nil))) (pg_name (i := 4) sc_level_curves.nd rfl (Or.inl rfl)) (pss_cons (ps_expr (pe_bm PySem.F.plainAttrs_list PySem.F.slot_list_append PySem.F.type_list_append mt_append (pv 3) (pa_cons (pe_lst (pa_cons (pe_tup (pa_cons (pe_ix ix_list (pv 4) pe_int (fun _ _ => rfl)) (pa_cons (pv 2) pa_nil))) (pa_cons (pe_tup (pa_cons (pe_ix ix_list (pv 4) pe_int (fun _ _ => rfl)) (pa_cons (pe_ix ix_list (pv 4) pe_int (fun _ _ => rfl)) pa_nil))) (pa_cons (pe_tup (pa_cons (pe_ix ix_list (pv 4) pe_int (fun _ _ => rfl)) (pa_cons pe_int pa_nil))) pa_nil)))) pa_nil))) (pss_one (ps_set (i := 2) sc_level_curves.nd rfl (Or.inl rfl) pe_int)))) (pss_one (ps_ret (pv 3)))))))), ?_⟩
    repeat walk_at "r2"
    have hz : (sizeLine : Nat) = 16777216 := sizeLine_eq
    refine iteN (fun h1 => ?_) (fun h1 => ?_)
    · rw [ints_len] at h1
      repeat walk_at "r2"
      exact k.bad (dN27 (by omega)) _ (Same.refl _)
    rw [ints_len] at h1
    have k' := k.good (dS27 (by omega)) rfl
    have hm : (((izs l).length : Nat) : Int) % 4 = ((l.length % 4 : Nat) : Int) := by rw [ints_len]; omega
    have hhm : l.length % 4 = 0 ∨ l.length % 4 = 1 := by omega
    repeat walk_at "r2"
    rw [hm]
    refine iteD (fun h2 => ?_) (fun h2 => ?_)
    all_goals (repeat walk_at "r2")
    all_goals refine ⟨Nat.zero_le _, fun p hp => ?_⟩
    all_goals (have ha1 := keepN (o := .lst []) ha hp)
    all_goals (repeat walk_at "r2")
    all_goals (rw [cut_from (by omega), Int.toNat_natCast])
    all_goals (intro n1 hn1)
    all_goals (repeat walk_at "r2")
    all_goals refine ⟨n1, _, rfl, upd_same, by rw [List.length_drop]; omega, by rw [List.length_drop]; omega, fun H1 q1 s1 hq1 => ?_⟩
    all_goals (have C0 : ColAt StepsAt H p H1 [] [] := (ColAt.start hp (Same.refl _)).grow ((Same.new hn1).trans s1))
    all_goals (obtain ⟨fs, hf1, hf2⟩ := hq1)
    all_goals (have hf3 := (of_nw hf1).2)
    all_goals (have hnp : ∀ c, upd (upd H p (.lst [])) n1 (.lst (izs (l.drop (l.length % 4)))) c = none → c ≠ p := fun c h e => (by rw [e, keepN upd_same hn1] at h; cases h))
    all_goals (have hqp : q1 ≠ p := hnp _ (of_nw hf1).1)
    all_goals (replace hf2 := hf2.imp (G := fun fa f => fa ≠ p ∧ H1 fa = some (.lst (izs f))) fun _ _ q => ⟨hnp _ (of_nw q).1, (of_nw q).2⟩)
    all_goals (repeat walk_at "r2")
    ·
      rw [if_pos (by omega)] at k'
      refine loop_list (xs := fs.map V.ref) (fun i σ H' => ∃ y v4 as pre, σ = [some (.ref a), some (.int ((l.length % 4 : Nat) : Int)), some (.int y), some (.ref p), v4] ∧ ColAt StepsAt H p H' as pre ∧ pre.length = i ∧ (∀ b o, H1 b = some o → b ≠ p → H' b = some o) ∧
          (Sa20.flats (l.getD 0 0) (l.drop (l.length % 4))).map sg = pre ++ (Sa20.flats y ((l.drop (l.length % 4)).drop (4 * i))).map sg) ?_ ?_ ?_ ?_
      · exact ⟨_, none, [], [], rfl, C0, rfl, fun _ _ h _ => h, rfl⟩
      · rintro i σ H' _ ⟨_, _, _, _, _, _, _, sF, _⟩
        exact SqL.of (sF _ _ hf3 hqp)
      · rintro i yv σ H' hi ⟨y, v4, as, pre, rfl, C, hpl, sF, hpr⟩
        obtain ⟨fa, hfa, rfl⟩ := refs_get hi
        obtain ⟨f4, hf4, hfe1, hfe2⟩ := hf2.at hfa
        obtain ⟨a1, b1, c1, d1, rfl, edr⟩ := fours_get i hf4
        have hii : i < (fours (l.drop (l.length % 4))).length := (List.getElem?_eq_some_iff.mp hf4).1
        rw [fours_length, List.length_drop] at hii
        have hlen : as.length = i := by rw [C.all.length, hpl]
        rw [edr] at hpr
        have hfa2 := sF _ _ hfe2 hfe1
        repeat walk_at "r2"
        refine ⟨ty_list C.at_, ?_⟩
        repeat walk_at "r2"
        refine ⟨by show 2 ≤ sizeLine; decide, fun t1 g1 => ?_⟩
        repeat walk_at "r2"
        refine ⟨by show 2 ≤ sizeLine; decide, fun t2 g2 => ?_⟩
        repeat walk_at "r2"
        refine ⟨by show 2 ≤ sizeLine; decide, fun t3 g3 => ?_⟩
        repeat walk_at "r2"
        refine ⟨by show 3 ≤ sizeLine; decide, fun e g4 => ?_⟩
        repeat walk_at "r2"
        refine rd_append (keepN (keepN (keepN (keepN C.at_ g1) g2) g3) g4) (by rw [List.length_map]; omega) ?_
        repeat walk_at "r2"
        refine ⟨0, _, as ++ [e], pre ++ [[(a1, y), (b1, c1), (d1, 0)]], rfl, C.push (same3 g1 g2 g3 g4) (lit3 (fun c h => C.free h) g1 g2 g3 g4), by rw [List.length_append, hpl]; rfl, ?_, by rw [hpr, List.append_assoc]; rfl⟩
        intro b o h hb
        rw [upd_ne hb]
        exact same3 g1 g2 g3 g4 _ _ (sF b o h hb)
      · rintro σ H' ⟨y, v4, as, pre, rfl, C, hpl, sF, hpr⟩
        have e0 : (l.drop (l.length % 4)).drop (4 * (fs.map V.ref).length) = [] := by
          rw [List.length_map, hf2.length, fours_length]
          exact List.drop_eq_nil_of_le (by rw [List.length_drop]; omega)
        rw [e0] at hpr
        have hpr : (Sa20.flats (l.getD 0 0) (l.drop (l.length % 4))).map sg = pre ++ [] := hpr
        rw [List.append_nil] at hpr
        rw [← hpr] at C
        repeat walk_at "r2"
        exact k' _ _ C.same C.done
    ·
      rw [if_neg (by omega)] at k'
      refine loop_list (xs := fs.map V.ref) (fun i σ H' => ∃ y v4 as pre, σ = [some (.ref a), some (.int ((l.length % 4 : Nat) : Int)), some (.int y), some (.ref p), v4] ∧ ColAt StepsAt H p H' as pre ∧ pre.length = i ∧ (∀ b o, H1 b = some o → b ≠ p → H' b = some o) ∧
          (Sa20.flats 0 (l.drop (l.length % 4))).map sg = pre ++ (Sa20.flats y ((l.drop (l.length % 4)).drop (4 * i))).map sg) ?_ ?_ ?_ ?_
      · exact ⟨_, none, [], [], rfl, C0, rfl, fun _ _ h _ => h, rfl⟩
      · rintro i σ H' _ ⟨_, _, _, _, _, _, _, sF, _⟩
        exact SqL.of (sF _ _ hf3 hqp)
      · rintro i yv σ H' hi ⟨y, v4, as, pre, rfl, C, hpl, sF, hpr⟩
        obtain ⟨fa, hfa, rfl⟩ := refs_get hi
        obtain ⟨f4, hf4, hfe1, hfe2⟩ := hf2.at hfa
        obtain ⟨a1, b1, c1, d1, rfl, edr⟩ := fours_get i hf4
        have hii : i < (fours (l.drop (l.length % 4))).length := (List.getElem?_eq_some_iff.mp hf4).1
        rw [fours_length, List.length_drop] at hii
        have hlen : as.length = i := by rw [C.all.length, hpl]
        rw [edr] at hpr
        have hfa2 := sF _ _ hfe2 hfe1
        repeat walk_at "r2"
        refine ⟨ty_list C.at_, ?_⟩
        repeat walk_at "r2"
        refine ⟨by show 2 ≤ sizeLine; decide, fun t1 g1 => ?_⟩
        repeat walk_at "r2"
        refine ⟨by show 2 ≤ sizeLine; decide, fun t2 g2 => ?_⟩
        repeat walk_at "r2"
        refine ⟨by show 2 ≤ sizeLine; decide, fun t3 g3 => ?_⟩
        repeat walk_at "r2"
        refine ⟨by show 3 ≤ sizeLine; decide, fun e g4 => ?_⟩
        repeat walk_at "r2"
        refine rd_append (keepN (keepN (keepN (keepN C.at_ g1) g2) g3) g4) (by rw [List.length_map]; omega) ?_
        repeat walk_at "r2"
        refine ⟨0, _, as ++ [e], pre ++ [[(a1, y), (b1, c1), (d1, 0)]], rfl, C.push (same3 g1 g2 g3 g4) (lit3 (fun c h => C.free h) g1 g2 g3 g4), by rw [List.length_append, hpl]; rfl, ?_, by rw [hpr, List.append_assoc]; rfl⟩
        intro b o h hb
        rw [upd_ne hb]
        exact same3 g1 g2 g3 g4 _ _ (sF b o h hb)
      · rintro σ H' ⟨y, v4, as, pre, rfl, C, hpl, sF, hpr⟩
        have e0 : (l.drop (l.length % 4)).drop (4 * (fs.map V.ref).length) = [] := by
          rw [List.length_map, hf2.length, fours_length]
          exact List.drop_eq_nil_of_le (by rw [List.length_drop]; omega)
        rw [e0] at hpr
        have hpr : (Sa20.flats 0 (l.drop (l.length % 4))).map sg = pre ++ [] := hpr
        rw [List.append_nil] at hpr
        rw [← hpr] at C
        repeat walk_at "r2"
        exact k' _ _ C.same C.done
theorem def_standing_curves (T : Txt P w K mg CR CS) : Def P w K mg base "standing_curves" 3 ["numbers"] (spPieces 26) := by
  refine T.f_standing_curves.mk sc_standing_curves (fun _ _ _ _ _ _ us hl => match us, hl with | [_], _ => rfl) (fun vs H Q E h => ?_) (fun f cdv A outer s H vs Q E hr h => ?_)
  · obtain ⟨a, l, rfl, ha, hl48, k⟩ := h; rfl
  · obtain ⟨a, l, rfl, ha, hl48, k⟩ := h
    refine ⟨_, (pss_cons (ps_if (pt_not (pt_val (pe_callD (def_is_fours_or_one_more T) (hr.mono (by decide)) rfl (pa_cons (pe_callB call_lenR rfl T.b_len bt_len (pa_cons (pv 0) pa_nil)) pa_nil)))) (pss_one (ps_ret pe_non)) pss_nil) (pss_cons (ps_set (i := 1) sc_standing_curves.nd rfl (Or.inl rfl) (pe_op op_mod (pe_callB call_lenR rfl T.b_len bt_len (pa_cons (pv 0) pa_nil)) pe_int)) (pss_cons (ps_set (i := 2) sc_standing_curves.nd rfl (Or.inl rfl) (pe_ifExp (pt_cmpR op_eq (pv 1) pe_int (nomark _)) (pe_ix ix_list (pv 0) pe_int (fun _ _ => rfl)) pe_int)) (pss_cons (ps_set (i := 3) sc_standing_curves.nd rfl (Or.inl rfl) (pe_lst pa_nil)) (pss_cons (ps_for PassesOwn.never rfl (pi_list (pe_callD (def_fours_of T) (hr.mono (by decide)) rfl (pa_cons (pe_slice sl_list (pv 0) (po_some (pv 1)) po_none) pa_nil))) (pg_name (i := 4) sc_standing_curves.nd rfl (Or.inl rfl)) (pss_cons (ps_expr (pe_bm PySem.F.plainAttrs_list PySem.F.slot_list_append PySem.F.type_list_append mt_append (pv 3) (pa_cons (pe_lst (pa_cons (pe_tup (pa_cons (pv 2) (pa_cons (pe_ix ix_list (pv 4) pe_int (fun _ _ => rfl)) pa_nil))) (pa_cons (pe_tup (pa_cons (pe_ix ix_list (pv 4) pe_int (fun _ _ => rfl)) (pa_cons (pe_ix ix_list (pv 4) pe_int (fun _ _ => rfl)) pa_nil))) (pa_cons (pe_tup (pa_cons pe_int (pa_cons (pe_ix ix_list (pv 4) pe_int (fun _ _ => rfl)) pa_nil))) pa_nil)))) pa_nil))) (pss_one (ps_set (i := 2) sc_standing_curves.nd rfl (Or.inl rfl) pe_int)))) (pss_one (ps_ret (pv 3)))))))), ?_⟩
    repeat walk_at "r2"
    have hz : (sizeLine : Nat) = 16777216 := sizeLine_eq
    refine iteN (fun h1 => ?_) (fun h1 => ?_)
    · rw [ints_len] at h1
      repeat walk_at "r2"
      exact k.bad (dN26 (by omega)) _ (Same.refl _)
    rw [ints_len] at h1
    have k' := k.good (dS26 (by omega)) rfl
    have hm : (((izs l).length : Nat) : Int) % 4 = ((l.length % 4 : Nat) : Int) := by rw [ints_len]; omega
    have hhm : l.length % 4 = 0 ∨ l.length % 4 = 1 := by omega
    repeat walk_at "r2"
    rw [hm]
    refine iteD (fun h2 => ?_) (fun h2 => ?_)
    all_goals (repeat walk_at "r2")
    all_goals refine ⟨Nat.zero_le _, fun p hp => ?_⟩
    all_goals (have ha1 := keepN (o := .lst []) ha hp)
    all_goals (repeat walk_at "r2")
    all_goals (rw [cut_from (by omega), Int.toNat_natCast])
    all_goals (intro n1 hn1)
    all_goals (repeat walk_at "r2")
    all_goals refine ⟨n1, _, rfl, upd_same, by rw [List.length_drop]; omega, by rw [List.length_drop]; omega, fun H1 q1 s1 hq1 => ?_⟩
    all_goals (have C0 : ColAt StepsAt H p H1 [] [] := (ColAt.start hp (Same.refl _)).grow ((Same.new hn1).trans s1))
    all_goals (obtain ⟨fs, hf1, hf2⟩ := hq1)
    all_goals (have hf3 := (of_nw hf1).2)
    all_goals (have hnp : ∀ c, upd (upd H p (.lst [])) n1 (.lst (izs (l.drop (l.length % 4)))) c = none → c ≠ p := fun c h e => (by rw [e, keepN upd_same hn1] at h; cases h))
    all_goals (have hqp : q1 ≠ p := hnp _ (of_nw hf1).1)
    all_goals (replace hf2 := hf2.imp (G := fun fa f => fa ≠ p ∧ H1 fa = some (.lst (izs f))) fun _ _ q => ⟨hnp _ (of_nw q).1, (of_nw q).2⟩)
    all_goals (repeat walk_at "r2")
    ·
      rw [if_pos (by omega)] at k'
      refine loop_list (xs := fs.map V.ref) (fun i σ H' => ∃ y v4 as pre, σ = [some (.ref a), some (.int ((l.length % 4 : Nat) : Int)), some (.int y), some (.ref p), v4] ∧ ColAt StepsAt H p H' as pre ∧ pre.length = i ∧ (∀ b o, H1 b = some o → b ≠ p → H' b = some o) ∧
          (Sa20.uprights (l.getD 0 0) (l.drop (l.length % 4))).map sg = pre ++ (Sa20.uprights y ((l.drop (l.length % 4)).drop (4 * i))).map sg) ?_ ?_ ?_ ?_
      · exact ⟨_, none, [], [], rfl, C0, rfl, fun _ _ h _ => h, rfl⟩
      · rintro i σ H' _ ⟨_, _, _, _, _, _, _, sF, _⟩
        exact SqL.of (sF _ _ hf3 hqp)
      · rintro i yv σ H' hi ⟨y, v4, as, pre, rfl, C, hpl, sF, hpr⟩
        obtain ⟨fa, hfa, rfl⟩ := refs_get hi
        obtain ⟨f4, hf4, hfe1, hfe2⟩ := hf2.at hfa
        obtain ⟨a1, b1, c1, d1, rfl, edr⟩ := fours_get i hf4
        have hii : i < (fours (l.drop (l.length % 4))).length := (List.getElem?_eq_some_iff.mp hf4).1
        rw [fours_length, List.length_drop] at hii
        have hlen : as.length = i := by rw [C.all.length, hpl]
        rw [edr] at hpr
        have hfa2 := sF _ _ hfe2 hfe1
        repeat walk_at "r2"
        refine ⟨ty_list C.at_, ?_⟩
        repeat walk_at "r2"
        refine ⟨by show 2 ≤ sizeLine; decide, fun t1 g1 => ?_⟩
        repeat walk_at "r2"
        refine ⟨by show 2 ≤ sizeLine; decide, fun t2 g2 => ?_⟩
        repeat walk_at "r2"
        refine ⟨by show 2 ≤ sizeLine; decide, fun t3 g3 => ?_⟩
        repeat walk_at "r2"
        refine ⟨by show 3 ≤ sizeLine; decide, fun e g4 => ?_⟩
        repeat walk_at "r2"
        refine rd_append (keepN (keepN (keepN (keepN C.at_ g1) g2) g3) g4) (by rw [List.length_map]; omega) ?_
        repeat walk_at "r2"
        refine ⟨0, _, as ++ [e], pre ++ [[(y, a1), (b1, c1), (0, d1)]], rfl, C.push (same3 g1 g2 g3 g4) (lit3 (fun c h => C.free h) g1 g2 g3 g4), by rw [List.length_append, hpl]; rfl, ?_, by rw [hpr, List.append_assoc]; rfl⟩
        intro b o h hb
        rw [upd_ne hb]
        exact same3 g1 g2 g3 g4 _ _ (sF b o h hb)
      · rintro σ H' ⟨y, v4, as, pre, rfl, C, hpl, sF, hpr⟩
        have e0 : (l.drop (l.length % 4)).drop (4 * (fs.map V.ref).length) = [] := by
          rw [List.length_map, hf2.length, fours_length]
          exact List.drop_eq_nil_of_le (by rw [List.length_drop]; omega)
        rw [e0] at hpr
        have hpr : (Sa20.uprights (l.getD 0 0) (l.drop (l.length % 4))).map sg = pre ++ [] := hpr
        rw [List.append_nil] at hpr
        rw [← hpr] at C
        repeat walk_at "r2"
        exact k' _ _ C.same C.done
    ·
      rw [if_neg (by omega)] at k'
      refine loop_list (xs := fs.map V.ref) (fun i σ H' => ∃ y v4 as pre, σ = [some (.ref a), some (.int ((l.length % 4 : Nat) : Int)), some (.int y), some (.ref p), v4] ∧ ColAt StepsAt H p H' as pre ∧ pre.length = i ∧ (∀ b o, H1 b = some o → b ≠ p → H' b = some o) ∧
          (Sa20.uprights 0 (l.drop (l.length % 4))).map sg = pre ++ (Sa20.uprights y ((l.drop (l.length % 4)).drop (4 * i))).map sg) ?_ ?_ ?_ ?_
      · exact ⟨_, none, [], [], rfl, C0, rfl, fun _ _ h _ => h, rfl⟩
      · rintro i σ H' _ ⟨_, _, _, _, _, _, _, sF, _⟩
        exact SqL.of (sF _ _ hf3 hqp)
      · rintro i yv σ H' hi ⟨y, v4, as, pre, rfl, C, hpl, sF, hpr⟩
        obtain ⟨fa, hfa, rfl⟩ := refs_get hi
        obtain ⟨f4, hf4, hfe1, hfe2⟩ := hf2.at hfa
        obtain ⟨a1, b1, c1, d1, rfl, edr⟩ := fours_get i hf4
        have hii : i < (fours (l.drop (l.length % 4))).length := (List.getElem?_eq_some_iff.mp hf4).1
        rw [fours_length, List.length_drop] at hii
        have hlen : as.length = i := by rw [C.all.length, hpl]
        rw [edr] at hpr
        have hfa2 := sF _ _ hfe2 hfe1
        repeat walk_at "r2"
        refine ⟨ty_list C.at_, ?_⟩
        repeat walk_at "r2"
        refine ⟨by show 2 ≤ sizeLine; decide, fun t1 g1 => ?_⟩
        repeat walk_at "r2"
        refine ⟨by show 2 ≤ sizeLine; decide, fun t2 g2 => ?_⟩
        repeat walk_at "r2"
        refine ⟨by show 2 ≤ sizeLine; decide, fun t3 g3 => ?_⟩
        repeat walk_at "r2"
        refine ⟨by show 3 ≤ sizeLine; decide, fun e g4 => ?_⟩
        repeat walk_at "r2"
        refine rd_append (keepN (keepN (keepN (keepN C.at_ g1) g2) g3) g4) (by rw [List.length_map]; omega) ?_
        repeat walk_at "r2"
        refine ⟨0, _, as ++ [e], pre ++ [[(y, a1), (b1, c1), (0, d1)]], rfl, C.push (same3 g1 g2 g3 g4) (lit3 (fun c h => C.free h) g1 g2 g3 g4), by rw [List.length_append, hpl]; rfl, ?_, by rw [hpr, List.append_assoc]; rfl⟩
        intro b o h hb
        rw [upd_ne hb]
        exact same3 g1 g2 g3 g4 _ _ (sF b o h hb)
      · rintro σ H' ⟨y, v4, as, pre, rfl, C, hpl, sF, hpr⟩
        have e0 : (l.drop (l.length % 4)).drop (4 * (fs.map V.ref).length) = [] := by
          rw [List.length_map, hf2.length, fours_length]
          exact List.drop_eq_nil_of_le (by rw [List.length_drop]; omega)
        rw [e0] at hpr
        have hpr : (Sa20.uprights 0 (l.drop (l.length % 4))).map sg = pre ++ [] := hpr
        rw [List.append_nil] at hpr
        rw [← hpr] at C
        repeat walk_at "r2"
        exact k' _ _ C.same C.done
theorem def_flat_curve (T : Txt P w K mg CR CS) : Def P w K mg base "flat_curve" 1 ["four", "e"] (spBend fun a b c d e => [(a, 0), (b, c), (e, d)]) := by
  refine T.f_flat_curve.mk sc_flat_curve (fun _ _ _ _ _ _ us hl => match us, hl with | [_, _], _ => rfl) (fun vs H Q E h => ?_) (fun f cdv A outer s H vs Q E hr h => ?_)
  · obtain ⟨fa, a1, b1, c1, d1, e1, rfl, hfa, k⟩ := h; rfl
  · obtain ⟨fa, a1, b1, c1, d1, e1, rfl, hfa, k⟩ := h
    refine ⟨_, (pss_one (ps_ret (pe_lst (pa_cons (pe_tup (pa_cons (pe_ix ix_list (pv 0) pe_int (fun _ _ => rfl)) (pa_cons pe_int pa_nil))) (pa_cons (pe_tup (pa_cons (pe_ix ix_list (pv 0) pe_int (fun _ _ => rfl)) (pa_cons (pe_ix ix_list (pv 0) pe_int (fun _ _ => rfl)) pa_nil))) (pa_cons (pe_tup (pa_cons (pv 1) (pa_cons (pe_ix ix_list (pv 0) pe_int (fun _ _ => rfl)) pa_nil))) pa_nil)))))), ?_⟩
    repeat walk_at "r2"
    refine ⟨by show 2 ≤ sizeLine; decide, fun t1 g1 => ?_⟩
    repeat walk_at "r2"
    refine ⟨by show 2 ≤ sizeLine; decide, fun t2 g2 => ?_⟩
    repeat walk_at "r2"
    refine ⟨by show 2 ≤ sizeLine; decide, fun t3 g3 => ?_⟩
    repeat walk_at "r2"
    refine ⟨by show 3 ≤ sizeLine; decide, fun e g4 => ?_⟩
    repeat walk_at "r2"
    exact k _ _ (same3 g1 g2 g3 g4) (lit3 (fun c h => h) g1 g2 g3 g4)
theorem def_upright_curve (T : Txt P w K mg CR CS) : Def P w K mg base "upright_curve" 1 ["four", "e"] (spBend fun a b c d e => [(0, a), (b, c), (d, e)]) := by
  refine T.f_upright_curve.mk sc_upright_curve (fun _ _ _ _ _ _ us hl => match us, hl with | [_, _], _ => rfl) (fun vs H Q E h => ?_) (fun f cdv A outer s H vs Q E hr h => ?_)
  · obtain ⟨fa, a1, b1, c1, d1, e1, rfl, hfa, k⟩ := h; rfl
  · obtain ⟨fa, a1, b1, c1, d1, e1, rfl, hfa, k⟩ := h
    refine ⟨_, (pss_one (ps_ret (pe_lst (pa_cons (pe_tup (pa_cons pe_int (pa_cons (pe_ix ix_list (pv 0) pe_int (fun _ _ => rfl)) pa_nil))) (pa_cons (pe_tup (pa_cons (pe_ix ix_list (pv 0) pe_int (fun _ _ => rfl)) (pa_cons (pe_ix ix_list (pv 0) pe_int (fun _ _ => rfl)) pa_nil))) (pa_cons (pe_tup (pa_cons (pe_ix ix_list (pv 0) pe_int (fun _ _ => rfl)) (pa_cons (pv 1) pa_nil))) pa_nil)))))), ?_⟩
    repeat walk_at "r2"
    refine ⟨by show 2 ≤ sizeLine; decide, fun t1 g1 => ?_⟩
    repeat walk_at "r2"
    refine ⟨by show 2 ≤ sizeLine; decide, fun t2 g2 => ?_⟩
    repeat walk_at "r2"
    refine ⟨by show 2 ≤ sizeLine; decide, fun t3 g3 => ?_⟩
    repeat walk_at "r2"
    refine ⟨by show 3 ≤ sizeLine; decide, fun e g4 => ?_⟩
    repeat walk_at "r2"
    exact k _ _ (same3 g1 g2 g3 g4) (lit3 (fun c h => h) g1 g2 g3 g4)
theorem def_two_curves_of_seven (T : Txt P w K mg CR CS) : Def P w K mg base "two_curves_of_seven" 3 ["numbers"] (spPieces 290) := by
  refine T.f_two_curves_of_seven.mk sc_two_curves_of_seven (fun _ _ _ _ _ _ us hl => match us, hl with | [_], _ => rfl) (fun vs H Q E h => ?_) (fun f cdv A outer s H vs Q E hr h => ?_)
  · obtain ⟨a, l, rfl, ha, hl48, k⟩ := h; rfl
  · obtain ⟨a, l, rfl, ha, hl48, k⟩ := h
    refine ⟨_, (pss_cons (ps_if (pt_cmpR op_ne (pe_callB call_lenR rfl T.b_len bt_len (pa_cons (pv 0) pa_nil)) pe_int (nomark _)) (pss_one (ps_ret pe_non)) pss_nil) (pss_cons (ps_set (i := 1) sc_two_curves_of_seven.nd rfl (Or.inl rfl) (pe_ix ix_list (pv 0) pe_int (fun _ _ => rfl))) (pss_cons (ps_set (i := 2) sc_two_curves_of_seven.nd rfl (Or.inl rfl) (pe_lst (pa_cons (pe_tup (pa_cons (pe_ix ix_list (pv 0) pe_int (fun _ _ => rfl)) (pa_cons pe_int pa_nil))) (pa_cons (pe_tup (pa_cons (pe_ix ix_list (pv 0) pe_int (fun _ _ => rfl)) (pa_cons (pv 1) pa_nil))) (pa_cons (pe_tup (pa_cons (pe_ix ix_list (pv 0) pe_int (fun _ _ => rfl)) (pa_cons pe_int pa_nil))) pa_nil))))) (pss_cons (ps_set (i := 3) sc_two_curves_of_seven.nd rfl (Or.inl rfl) (pe_lst (pa_cons (pe_tup (pa_cons (pe_ix ix_list (pv 0) pe_int (fun _ _ => rfl)) (pa_cons pe_int pa_nil))) (pa_cons (pe_tup (pa_cons (pe_ix ix_list (pv 0) pe_int (fun _ _ => rfl)) (pa_cons (pe_un un_neg (pv 1)) pa_nil))) (pa_cons (pe_tup (pa_cons (pe_ix ix_list (pv 0) pe_int (fun _ _ => rfl)) (pa_cons pe_int pa_nil))) pa_nil))))) (pss_one (ps_ret (pe_lst (pa_cons (pv 2) (pa_cons (pv 3) pa_nil))))))))), ?_⟩
    repeat walk_at "r2"
    refine iteN (fun h1 => ?_) (fun h1 => ?_)
    · rw [ints_len] at h1
      repeat walk_at "r2"
      exact k.bad (dN34 (by omega)) _ (Same.refl _)
    rw [ints_len] at h1
    obtain ⟨x0, x1, x2, x3, x4, x5, x6, rfl⟩ : ∃ x0 x1 x2 x3 x4 x5 x6, l = [x0, x1, x2, x3, x4, x5, x6] := by
      match l, h1 with
      | [x0, x1, x2, x3, x4, x5, x6], _ => exact ⟨x0, x1, x2, x3, x4, x5, x6, rfl⟩
    have k' := k.good dS34 rfl
    repeat walk_at "r2"
    refine ⟨by show 2 ≤ sizeLine; decide, fun t1 g1 => ?_⟩
    repeat walk_at "r2"
    refine ⟨by show 2 ≤ sizeLine; decide, fun t2 g2 => ?_⟩
    repeat walk_at "r2"
    refine ⟨by show 2 ≤ sizeLine; decide, fun t3 g3 => ?_⟩
    repeat walk_at "r2"
    refine ⟨by show 3 ≤ sizeLine; decide, fun e1 g4 => ?_⟩
    repeat walk_at "r2"
    refine ⟨by show 2 ≤ sizeLine; decide, fun t4 g5 => ?_⟩
    repeat walk_at "r2"
    refine ⟨by show 2 ≤ sizeLine; decide, fun t5 g6 => ?_⟩
    repeat walk_at "r2"
    refine ⟨by show 2 ≤ sizeLine; decide, fun t6 g7 => ?_⟩
    repeat walk_at "r2"
    refine ⟨by show 3 ≤ sizeLine; decide, fun e2 g8 => ?_⟩
    repeat walk_at "r2"
    refine ⟨by show 2 ≤ sizeLine; decide, fun p hp => ?_⟩
    repeat walk_at "r2"
    have sA := same3 (o4 := .lst [.ref t1, .ref t2, .ref t3]) g1 g2 g3 g4
    have sB := same3 (o4 := .lst [.ref t4, .ref t5, .ref t6]) g5 g6 g7 g8
    refine k' _ _ ((sA.trans sB).trans (Same.new hp)) ⟨[e1, e2], nw_of ((sA.trans sB).free hp) upd_same, .cons ?_ (.cons ?_ .nil)⟩
    · exact (lit3 (G := H) (fun c h => h) g1 g2 g3 g4).mono (nw_sub (Same.refl _) (sB.trans (Same.new hp)))
    · exact (lit3 (G := H) (fun c h => sA.free h) g5 g6 g7 g8).mono (nw_sub (Same.refl _) (Same.new hp))
theorem def_two_curves_of_nine (T : Txt P w K mg CR CS) : Def P w K mg base "two_curves_of_nine" 3 ["numbers"] (spPieces 292) := by
  refine T.f_two_curves_of_nine.mk sc_two_curves_of_nine (fun _ _ _ _ _ _ us hl => match us, hl with | [_], _ => rfl) (fun vs H Q E h => ?_) (fun f cdv A outer s H vs Q E hr h => ?_)
  · obtain ⟨a, l, rfl, ha, hl48, k⟩ := h; rfl
  · obtain ⟨a, l, rfl, ha, hl48, k⟩ := h
    refine ⟨_, (pss_cons (ps_if (pt_cmpR op_ne (pe_callB call_lenR rfl T.b_len bt_len (pa_cons (pv 0) pa_nil)) pe_int (nomark _)) (pss_one (ps_ret pe_non)) pss_nil) (pss_cons (ps_set (i := 1) sc_two_curves_of_nine.nd rfl (Or.inl rfl) (pe_un un_neg (pe_op op_add (pe_op op_add (pe_ix ix_list (pv 0) pe_int (fun _ _ => rfl)) (pe_ix ix_list (pv 0) pe_int (fun _ _ => rfl))) (pe_ix ix_list (pv 0) pe_int (fun _ _ => rfl))))) (pss_cons (ps_set (i := 2) sc_two_curves_of_nine.nd rfl (Or.inl rfl) (pe_lst (pa_cons (pe_tup (pa_cons (pe_ix ix_list (pv 0) pe_int (fun _ _ => rfl)) (pa_cons (pe_ix ix_list (pv 0) pe_int (fun _ _ => rfl)) pa_nil))) (pa_cons (pe_tup (pa_cons (pe_ix ix_list (pv 0) pe_int (fun _ _ => rfl)) (pa_cons (pe_ix ix_list (pv 0) pe_int (fun _ _ => rfl)) pa_nil))) (pa_cons (pe_tup (pa_cons (pe_ix ix_list (pv 0) pe_int (fun _ _ => rfl)) (pa_cons pe_int pa_nil))) pa_nil))))) (pss_cons (ps_set (i := 3) sc_two_curves_of_nine.nd rfl (Or.inl rfl) (pe_lst (pa_cons (pe_tup (pa_cons (pe_ix ix_list (pv 0) pe_int (fun _ _ => rfl)) (pa_cons pe_int pa_nil))) (pa_cons (pe_tup (pa_cons (pe_ix ix_list (pv 0) pe_int (fun _ _ => rfl)) (pa_cons (pe_ix ix_list (pv 0) pe_int (fun _ _ => rfl)) pa_nil))) (pa_cons (pe_tup (pa_cons (pe_ix ix_list (pv 0) pe_int (fun _ _ => rfl)) (pa_cons (pv 1) pa_nil))) pa_nil))))) (pss_one (ps_ret (pe_lst (pa_cons (pv 2) (pa_cons (pv 3) pa_nil))))))))), ?_⟩
    repeat walk_at "r2"
    refine iteN (fun h1 => ?_) (fun h1 => ?_)
    · rw [ints_len] at h1
      repeat walk_at "r2"
      exact k.bad (dN36 (by omega)) _ (Same.refl _)
    rw [ints_len] at h1
    obtain ⟨x0, x1, x2, x3, x4, x5, x6, x7, x8, rfl⟩ : ∃ x0 x1 x2 x3 x4 x5 x6 x7 x8, l = [x0, x1, x2, x3, x4, x5, x6, x7, x8] := by
      match l, h1 with
      | [x0, x1, x2, x3, x4, x5, x6, x7, x8], _ => exact ⟨x0, x1, x2, x3, x4, x5, x6, x7, x8, rfl⟩
    have k' := k.good dS36 rfl
    repeat walk_at "r2"
    refine ⟨by show 2 ≤ sizeLine; decide, fun t1 g1 => ?_⟩
    repeat walk_at "r2"
    refine ⟨by show 2 ≤ sizeLine; decide, fun t2 g2 => ?_⟩
    repeat walk_at "r2"
    refine ⟨by show 2 ≤ sizeLine; decide, fun t3 g3 => ?_⟩
    repeat walk_at "r2"
    refine ⟨by show 3 ≤ sizeLine; decide, fun e1 g4 => ?_⟩
    repeat walk_at "r2"
    refine ⟨by show 2 ≤ sizeLine; decide, fun t4 g5 => ?_⟩
    repeat walk_at "r2"
    refine ⟨by show 2 ≤ sizeLine; decide, fun t5 g6 => ?_⟩
    repeat walk_at "r2"
    refine ⟨by show 2 ≤ sizeLine; decide, fun t6 g7 => ?_⟩
    repeat walk_at "r2"
    refine ⟨by show 3 ≤ sizeLine; decide, fun e2 g8 => ?_⟩
    repeat walk_at "r2"
    refine ⟨by show 2 ≤ sizeLine; decide, fun p hp => ?_⟩
    repeat walk_at "r2"
    have sA := same3 (o4 := .lst [.ref t1, .ref t2, .ref t3]) g1 g2 g3 g4
    have sB := same3 (o4 := .lst [.ref t4, .ref t5, .ref t6]) g5 g6 g7 g8
    refine k' _ _ ((sA.trans sB).trans (Same.new hp)) ⟨[e1, e2], nw_of ((sA.trans sB).free hp) upd_same, .cons ?_ (.cons ?_ .nil)⟩
    · exact (lit3 (G := H) (fun c h => h) g1 g2 g3 g4).mono (nw_sub (Same.refl _) (sB.trans (Same.new hp)))
    · exact (lit3 (G := H) (fun c h => sA.free h) g5 g6 g7 g8).mono (nw_sub (Same.refl _) (Same.new hp))
theorem def_two_curves_of_thirteen (T : Txt P w K mg CR CS) : Def P w K mg base "two_curves_of_thirteen" 3 ["numbers"] (spPieces 291) := by
  refine T.f_two_curves_of_thirteen.mk sc_two_curves_of_thirteen (fun _ _ _ _ _ _ us hl => match us, hl with | [_], _ => rfl) (fun vs H Q E h => ?_) (fun f cdv A outer s H vs Q E hr h => ?_)
  · obtain ⟨a, l, rfl, ha, hl48, k⟩ := h; rfl
  · obtain ⟨a, l, rfl, ha, hl48, k⟩ := h
    refine ⟨_, (pss_cons (ps_if (pt_cmpR op_ne (pe_callB call_lenR rfl T.b_len bt_len (pa_cons (pv 0) pa_nil)) pe_int (nomark _)) (pss_one (ps_ret pe_non)) pss_nil) (pss_one (ps_ret (pe_callD (def_curves_of T) (hr.mono (by decide)) rfl (pa_cons (pe_slice sl_list (pv 0) po_none (po_some pe_int)) pa_nil))))), ?_⟩
    repeat walk_at "r2"
    refine iteN (fun h1 => ?_) (fun h1 => ?_)
    · rw [ints_len] at h1
      repeat walk_at "r2"
      exact k.bad (dN35 (by omega)) _ (Same.refl _)
    rw [ints_len] at h1
    repeat walk_at "r2"
    rw [cut_to (by omega)]
    intro n1 hn1
    repeat walk_at "r2"
    refine ⟨n1, _, rfl, upd_same, by rw [List.length_take]; show min 12 l.length % 6 = 0; omega, by rw [List.length_take]; show min 12 l.length ≤ 48; omega, fun H1 p1 s1 hp1 => ?_⟩
    exact k.good (dS35 (by omega)) (curves_sg _) _ _ ((Same.new hn1).trans s1) (hp1.mono (nw_sub (Same.new hn1) (Same.refl _)))
theorem pairs10 {l : List Int} (h : l.length = 11) : (Sa20.pairs (l.take 10)).length = 5 := by rw [pairs_length, List.length_take]; omega
theorem cut_refs_to (ts : List Addr) (k : Nat) (h : k ≤ ts.length) : cutV (ts.map V.ref) none (some (k : Int)) = (ts.take k).map V.ref := by
  unfold cutV
  rw [HT.sIx_none, HT.sIx_nat, List.length_map, Nat.min_eq_left h, List.drop_zero, Nat.sub_zero, List.map_take]
theorem cut_refs_from (ts : List Addr) (k : Nat) (h : k ≤ ts.length) : cutV (ts.map V.ref) (some (k : Int)) none = (ts.drop k).map V.ref := by
  unfold cutV
  rw [HT.sIx_none, HT.sIx_nat, List.length_map, Nat.min_eq_left h, List.take_of_length_le (by rw [List.length_drop, List.length_map]; exact Nat.le_refl _), List.map_drop]
theorem fold_take {α : Type} (l : List α) (n : Nat) (h : l.length ≤ n) : l.take n = l := List.take_of_length_le h
theorem def_curves_in_turn (T : Txt P w K mg CR CS) : Def P w K mg base "curves_in_turn" 2 ["numbers", "flat"] spSwings := by
  refine T.f_curves_in_turn.mk sc_curves_in_turn (fun _ _ _ _ _ _ us hl => match us, hl with | [_, _], _ => rfl) (fun vs H Q E h => ?_) (fun f cdv A outer s H vs Q E hr h => ?_)
  · obtain ⟨a, l, b, rfl, ha, hl48, k⟩ := h; rfl
  · obtain ⟨a, l, b, rfl, ha, hl48, k⟩ := h
    refine ⟨_, (pss_cons (ps_set (i := 2) sc_curves_in_turn.nd rfl (Or.inl rfl) (pe_callB call_lenR rfl T.b_len bt_len (pa_cons (pv 0) pa_nil))) (pss_cons (ps_if (pt_not (pt_val (pe_callD (def_is_fours_or_one_more T) (hr.mono (by decide)) rfl (pa_cons (pv 2) pa_nil)))) (pss_one (ps_ret pe_non)) pss_nil) (pss_cons (ps_set (i := 3) sc_curves_in_turn.nd rfl (Or.inl rfl) (pe_lst pa_nil)) (pss_cons (ps_set (i := 4) sc_curves_in_turn.nd rfl (Or.inl rfl) (pe_callD (def_fours_of T) (hr.mono (by decide)) rfl (pa_cons (pe_slice sl_list (pv 0) po_none (po_some (pe_op op_sub (pv 2) (pe_op op_mod (pv 2) pe_int)))) pa_nil))) (pss_cons (ps_for PassesOwn.never rfl (pi_enum rfl T.b_enumerate (pa_cons (pv 4) pa_nil)) (pg_tup rfl (pgs_cons (pg_name (i := 5) sc_curves_in_turn.nd rfl (Or.inl rfl)) (pgs_cons (pg_name (i := 6) sc_curves_in_turn.nd rfl (Or.inl rfl)) pgs_nil))) (pss_cons (ps_set (i := 7) sc_curves_in_turn.nd rfl (Or.inl rfl) (pe_ifExp (PW.pt (pw_and (pt_cmpR op_eq (pe_op op_mod (pv 2) pe_int) pe_int (nomark _)) (pw_and1 (pt_cmpR op_eq (pv 5) (pe_op op_sub (pe_callB call_lenR rfl T.b_len bt_len (pa_cons (pv 4) pa_nil)) pe_int) (nomark _))))) (pe_ix ix_list (pv 0) (pe_un un_neg pe_int) (fun _ _ => rfl)) pe_int)) (pss_cons (ps_expr (pe_bm PySem.F.plainAttrs_list PySem.F.slot_list_append PySem.F.type_list_append mt_append (pv 3) (pa_cons (pe_ifExp (pt_val (pv 1)) (pe_callD (def_flat_curve T) (hr.mono (by decide)) rfl (pa_cons (pv 6) (pa_cons (pv 7) pa_nil))) (pe_callD (def_upright_curve T) (hr.mono (by decide)) rfl (pa_cons (pv 6) (pa_cons (pv 7) pa_nil)))) pa_nil))) (pss_one (ps_set (i := 1) sc_curves_in_turn.nd rfl (Or.inl rfl) (pe_not (pv 1))))))) (pss_one (ps_ret (pv 3)))))))), ?_⟩
    repeat walk_at "r2"
    have hz : (sizeLine : Nat) = 16777216 := sizeLine_eq
    refine iteN (fun h1 => ?_) (fun h1 => ?_)
    · rw [ints_len] at h1
      repeat walk_at "r2"
      exact k.bad (if_pos (by omega)) _ (Same.refl _)
    rw [ints_len] at h1
    have k' := k.good (if_neg (by omega)) rfl
    have hm : (((izs l).length : Nat) : Int) - (((izs l).length : Nat) : Int) % 4 = ((l.length - l.length % 4 : Nat) : Int) := by rw [ints_len]; omega
    repeat walk_at "r2"
    refine ⟨Nat.zero_le _, fun p hp => ?_⟩
    have ha1 := keepN (o := .lst []) ha hp
    repeat walk_at "r2"
    rw [hm, cut_to (by omega), Int.toNat_natCast]
    intro n1 hn1
    repeat walk_at "r2"
    refine ⟨n1, _, rfl, upd_same, by rw [List.length_take]; omega, by rw [List.length_take]; omega, fun H1 q1 s1 hq1 => ?_⟩
    rw [fours_take] at hq1
    have C0 : ColAt StepsAt H p H1 [] [] := (ColAt.start hp (Same.refl _)).grow ((Same.new hn1).trans s1)
    obtain ⟨fs, hf1, hf2⟩ := hq1
    have hf3 := (of_nw hf1).2
    have hnp : ∀ c, upd (upd H p (.lst [])) n1 (.lst (izs (l.take (l.length - l.length % 4)))) c = none → c ≠ p := fun c h e => (by rw [e, keepN upd_same hn1] at h; cases h)
    have hqp : q1 ≠ p := hnp _ (of_nw hf1).1
    replace hf2 := hf2.imp (G := fun fa f => fa ≠ p ∧ H1 fa = some (.lst (izs f))) fun _ _ q => ⟨hnp _ (of_nw q).1, (of_nw q).2⟩
    have hfl : fs.length = l.length / 4 := by rw [hf2.length, fours_length]
    repeat walk_at "r2"
    refine loop_enum (xs := fs.map V.ref) (fun i σ H' => ∃ b' v5 v6 v7 as pre, σ = [some (.ref a), some (.bl b'), some (.int (((izs l).length : Nat) : Int)), some (.ref p), some (.ref q1), v5, v6, v7] ∧ ColAt StepsAt H p H' as pre ∧ pre.length = i ∧ (∀ b o, H1 b = some o → b ≠ p → H' b = some o) ∧
          (Sa20.swings b l).map sg = pre ++ (Sa20.swings b' (l.drop (4 * i))).map sg) ?_ ?_ ?_ ?_
    · exact ⟨b, none, none, none, [], [], rfl, C0, rfl, fun _ _ h _ => h, rfl⟩
    · rintro i σ H' _ ⟨_, _, _, _, _, _, _, _, _, sF, _⟩
      exact SqL.of (sF _ _ hf3 hqp)
    · rintro i yv σ H' tt hi ⟨b', v5, v6, v7, as, pre, rfl, C, hpl, sF, hpr⟩ htt
      obtain ⟨fa, hfa, rfl⟩ := refs_get hi
      obtain ⟨f4, hf4, hfe1, hfe2⟩ := hf2.at hfa
      obtain ⟨a1, b1, c1, d1, rfl, edr⟩ := fours_get i hf4
      have hii : i < (fours l).length := (List.getElem?_eq_some_iff.mp hf4).1
      rw [fours_length] at hii
      have hlen : as.length = i := by rw [C.all.length, hpl]
      rw [edr] at hpr
      have hfa2 := sF _ _ hfe2 hfe1
      have ha2 := C.same _ _ ha
      have hq2 := sF _ _ hf3 hqp
      have hrl : (l.drop (4 * (i + 1))).length = l.length - 4 * (i + 1) := List.length_drop
      have Ct := C.grow (Same.new (o := .tup [.int (i : Nat), .ref fa]) htt)
      have hfa3 := keepN (o := .tup [.int (i : Nat), .ref fa]) hfa2 htt
      have ha3 := keepN (o := .tup [.int (i : Nat), .ref fa]) ha2 htt
      have hq3 := keepN (o := .tup [.int (i : Nat), .ref fa]) hq2 htt
      have fin : ∀ (ev : Int), ((l.drop (4 * (i + 1))).length = 1 → ev = (l.drop (4 * (i + 1))).getD 0 0) → ((l.drop (4 * (i + 1))).length ≠ 1 → ev = 0) → ∀ (H5 : Hp) (e : Addr), Same (upd H' tt (.tup [.int (i : Nat), .ref fa])) H5 →
          StepsAt (Nw (upd H' tt (.tup [.int (i : Nat), .ref fa])) H5) e (if b' = true then [(a1, 0), (b1, c1), (ev, d1)] else [(0, a1), (b1, c1), (d1, ev)]) →
          ∃ b'' v5 v6 v7 as' pre', ([some (.ref a), some (.bl (!b')), some (.int (((izs l).length : Nat) : Int)), some (.ref p), some (.ref q1), some (.int (i : Nat)), some (.ref fa), some (.int ev)] : St) = [some (.ref a), some (.bl b''), some (.int (((izs l).length : Nat) : Int)), some (.ref p), some (.ref q1), v5, v6, v7] ∧
            ColAt StepsAt H p (upd H5 p (.lst (as.map V.ref ++ [.ref e]))) as' pre' ∧ pre'.length = i + 1 ∧ (∀ b o, H1 b = some o → b ≠ p → (upd H5 p (.lst (as.map V.ref ++ [.ref e]))) b = some o) ∧ (Sa20.swings b l).map sg = pre' ++ (Sa20.swings b'' (l.drop (4 * (i + 1)))).map sg := by
        intro ev e1 e2 H5 e s5 hst
        refine ⟨!b', _, _, _, as ++ [e], pre ++ [if b' = true then [(a1, 0), (b1, c1), (ev, d1)] else [(0, a1), (b1, c1), (d1, ev)]], rfl, Ct.push s5 (hst.mono fun b o h => nw_of (Ct.free (of_nw h).1) (of_nw h).2), by rw [List.length_append, hpl]; rfl, ?_, ?_⟩
        · intro b o h hb
          rw [upd_ne hb]
          exact s5 _ _ (keepN (sF b o h hb) htt)
        · rw [hpr, swing_step e1 e2, List.append_assoc]; rfl
      refine rd_gtup2 (SqT.of upd_same) ?_
      repeat walk_at "r2"
      refine iteD (fun h2 => ?_) (fun h2 => ?_)
      · rw [ints_len] at h2
        repeat walk_at "r2"
        refine iteD (fun h3 => ?_) (fun h3 => ?_)
        · rw [List.length_map, hfl] at h3
          obtain ⟨s', last, hsl⟩ := snoc_of (l := l) (by omega)
          have hs' : s'.length + 1 = l.length := by rw [hsl, List.length_append]; rfl
          repeat walk_at "r2"
          refine rd_ixL (SqL.of ha3) (by rw [hsl]; exact atI_lastI s' last) ?_
          have hlast : last = (l.drop (4 * (i + 1))).getD 0 0 := by
            rw [List.getD_eq_getElem?_getD, List.getElem?_drop, hsl, List.getElem?_append_right (by omega)]
            have e9 : 4 * (i + 1) + 0 - s'.length = 0 := by omega
            rw [e9]; rfl
          repeat walk_at "r2"
          refine ⟨ty_list Ct.at_, ?_⟩
          repeat walk_at "r2"
          cases b' with
          | true =>
            refine iteT ?_
            repeat walk_at "r2"
            refine ⟨fa, a1, b1, c1, d1, last, rfl, hfa3, fun H5 e s5 hst => ?_⟩
            repeat walk_at "r2"
            refine rd_append ((Ct.grow s5).at_) (by rw [List.length_map]; omega) ?_
            repeat walk_at "r2"
            exact fin last (fun _ => hlast) (fun h => absurd (by rw [hrl]; omega) h) H5 e s5 hst
          | false =>
            refine iteF ?_
            repeat walk_at "r2"
            refine ⟨fa, a1, b1, c1, d1, last, rfl, hfa3, fun H5 e s5 hst => ?_⟩
            repeat walk_at "r2"
            refine rd_append ((Ct.grow s5).at_) (by rw [List.length_map]; omega) ?_
            repeat walk_at "r2"
            exact fin last (fun _ => hlast) (fun h => absurd (by rw [hrl]; omega) h) H5 e s5 hst
        · rw [List.length_map, hfl] at h3
          repeat walk_at "r2"
          refine ⟨ty_list Ct.at_, ?_⟩
          repeat walk_at "r2"
          cases b' with
          | true =>
            refine iteT ?_
            repeat walk_at "r2"
            refine ⟨fa, a1, b1, c1, d1, 0, rfl, hfa3, fun H5 e s5 hst => ?_⟩
            repeat walk_at "r2"
            refine rd_append ((Ct.grow s5).at_) (by rw [List.length_map]; omega) ?_
            repeat walk_at "r2"
            exact fin 0 (fun h => absurd h (by rw [hrl]; omega)) (fun _ => rfl) H5 e s5 hst
          | false =>
            refine iteF ?_
            repeat walk_at "r2"
            refine ⟨fa, a1, b1, c1, d1, 0, rfl, hfa3, fun H5 e s5 hst => ?_⟩
            repeat walk_at "r2"
            refine rd_append ((Ct.grow s5).at_) (by rw [List.length_map]; omega) ?_
            repeat walk_at "r2"
            exact fin 0 (fun h => absurd h (by rw [hrl]; omega)) (fun _ => rfl) H5 e s5 hst
      · rw [ints_len] at h2
        repeat walk_at "r2"
        refine ⟨ty_list Ct.at_, ?_⟩
        repeat walk_at "r2"
        cases b' with
        | true =>
          refine iteT ?_
          repeat walk_at "r2"
          refine ⟨fa, a1, b1, c1, d1, 0, rfl, hfa3, fun H5 e s5 hst => ?_⟩
          repeat walk_at "r2"
          refine rd_append ((Ct.grow s5).at_) (by rw [List.length_map]; omega) ?_
          repeat walk_at "r2"
          exact fin 0 (fun h => absurd h (by rw [hrl]; omega)) (fun _ => rfl) H5 e s5 hst
        | false =>
          refine iteF ?_
          repeat walk_at "r2"
          refine ⟨fa, a1, b1, c1, d1, 0, rfl, hfa3, fun H5 e s5 hst => ?_⟩
          repeat walk_at "r2"
          refine rd_append ((Ct.grow s5).at_) (by rw [List.length_map]; omega) ?_
          repeat walk_at "r2"
          exact fin 0 (fun h => absurd h (by rw [hrl]; omega)) (fun _ => rfl) H5 e s5 hst
    · rintro σ H' ⟨b', v5, v6, v7, as, pre, rfl, C, hpl, sF, hpr⟩
      have e0 : (Sa20.swings b' (l.drop (4 * (fs.map V.ref).length))).map sg = [] := by
        rw [List.length_map, hfl]
        have hl1 : (l.drop (4 * (l.length / 4))).length ≤ 1 := by rw [List.length_drop]; omega
        match l.drop (4 * (l.length / 4)), hl1 with
        | [], _ => rfl
        | [_], _ => rfl
      rw [e0, List.append_nil] at hpr
      rw [← hpr] at C
      repeat walk_at "r2"
      exact k' _ _ C.same C.done
theorem def_curves_from_flat (T : Txt P w K mg CR CS) : Def P w K mg base "curves_from_flat" 3 ["numbers"] (spPieces 31) := by
  refine T.f_curves_from_flat.mk sc_curves_from_flat (fun _ _ _ _ _ _ us hl => match us, hl with | [_], _ => rfl) (fun vs H Q E h => ?_) (fun f cdv A outer s H vs Q E hr h => ?_)
  · obtain ⟨a, l, rfl, ha, hl48, k⟩ := h; rfl
  · obtain ⟨a, l, rfl, ha, hl48, k⟩ := h
    refine ⟨_, (pss_one (ps_ret (pe_callD (def_curves_in_turn T) (hr.mono (by decide)) rfl (pa_cons (pv 0) (pa_cons pe_bl pa_nil))))), ?_⟩
    repeat walk_at "r2"
    refine ⟨a, l, true, rfl, ha, hl48, ?_⟩
    by_cases c : 4 ≤ l.length ∧ l.length % 4 ≤ 1
    · rw [dS30 (by omega) c] at k; rw [if_neg (by omega)]; exact k
    · rw [dN30 (by omega) c] at k; rw [if_pos c]; exact k
theorem def_curves_from_upright (T : Txt P w K mg CR CS) : Def P w K mg base "curves_from_upright" 3 ["numbers"] (spPieces 30) := by
  refine T.f_curves_from_upright.mk sc_curves_from_upright (fun _ _ _ _ _ _ us hl => match us, hl with | [_], _ => rfl) (fun vs H Q E h => ?_) (fun f cdv A outer s H vs Q E hr h => ?_)
  · obtain ⟨a, l, rfl, ha, hl48, k⟩ := h; rfl
  · obtain ⟨a, l, rfl, ha, hl48, k⟩ := h
    refine ⟨_, (pss_one (ps_ret (pe_callD (def_curves_in_turn T) (hr.mono (by decide)) rfl (pa_cons (pv 0) (pa_cons pe_bl pa_nil))))), ?_⟩
    repeat walk_at "r2"
    refine ⟨a, l, false, rfl, ha, hl48, ?_⟩
    by_cases c : 4 ≤ l.length ∧ l.length % 4 ≤ 1
    · rw [dS30 (by omega) c] at k; rw [if_neg (by omega)]; exact k
    · rw [dN30 (by omega) c] at k; rw [if_pos c]; exact k
theorem def_two_curves_of_eleven (T : Txt P w K mg CR CS) : Def P w K mg base "two_curves_of_eleven" 3 ["numbers"] (spPieces 293) := by
  refine T.f_two_curves_of_eleven.mk sc_two_curves_of_eleven (fun _ _ _ _ _ _ us hl => match us, hl with | [_], _ => rfl) (fun vs H Q E h => ?_) (fun f cdv A outer s H vs Q E hr h => ?_)
  · obtain ⟨a, l, rfl, ha, hl48, k⟩ := h; rfl
  · obtain ⟨a, l, rfl, ha, hl48, k⟩ := h
    refine ⟨_, (pss_cons (ps_if (pt_cmpR op_ne (pe_callB call_lenR rfl T.b_len bt_len (pa_cons (pv 0) pa_nil)) pe_int (nomark _)) (pss_one (ps_ret pe_non)) pss_nil) (pss_cons (ps_set (i := 1) sc_two_curves_of_eleven.nd rfl (Or.inl rfl) (pe_callD (def_steps_of T) (hr.mono (by decide)) rfl (pa_cons (pe_slice sl_list (pv 0) po_none (po_some pe_int)) pa_nil))) (pss_cons (ps_set (i := 2) sc_two_curves_of_eleven.nd rfl (Or.inl rfl) (pe_callB (cr_sum rfl) rfl T.b_sum bt_sum (pa_cons (pe_lc (own := [("step", 5)]) rfl sc_two_curves_of_eleven.nd (pi_list (pv 1)) (blkOk_by rfl) (fun _ _ _ _ _ => (pg_name (i := 5) sc_two_curves_of_eleven.nd rfl (Or.inl rfl))) (fun _ _ _ _ _ => pts_nil) (fun _ _ _ _ _ => (pe_ix (r := rIxT K) ix_tup (pv 5) pe_int (fun _ _ => rfl)))) pa_nil))) (pss_cons (ps_set (i := 3) sc_two_curves_of_eleven.nd rfl (Or.inl rfl) (pe_callB (cr_sum rfl) rfl T.b_sum bt_sum (pa_cons (pe_lc (own := [("step", 5)]) rfl sc_two_curves_of_eleven.nd (pi_list (pv 1)) (blkOk_by rfl) (fun _ _ _ _ _ => (pg_name (i := 5) sc_two_curves_of_eleven.nd rfl (Or.inl rfl))) (fun _ _ _ _ _ => pts_nil) (fun _ _ _ _ _ => (pe_ix (r := rIxT K) ix_tup (pv 5) pe_int (fun _ _ => rfl)))) pa_nil))) (pss_cons (ps_set (i := 4) sc_two_curves_of_eleven.nd rfl (Or.inl rfl) (pe_ix ix_list (pv 0) pe_int (fun _ _ => rfl))) (pss_cons (ps_expr (pe_bm PySem.F.plainAttrs_list PySem.F.slot_list_append PySem.F.type_list_append mt_append (pv 1) (pa_cons (pe_ifExp (pt_cmpR op_gt (pe_callB call_absR rfl T.b_abs bt_abs (pa_cons (pv 2) pa_nil)) (pe_callB call_absR rfl T.b_abs bt_abs (pa_cons (pv 3) pa_nil)) (nomark _)) (pe_tup (pa_cons (pv 4) (pa_cons (pe_un un_neg (pv 3)) pa_nil))) (pe_tup (pa_cons (pe_un un_neg (pv 2)) (pa_cons (pv 4) pa_nil)))) pa_nil))) (pss_one (ps_ret (pe_lst (pa_cons (pe_slice sl_list (pv 1) po_none (po_some pe_int)) (pa_cons (pe_slice sl_list (pv 1) (po_some pe_int) po_none) pa_nil))))))))))), ?_⟩
    repeat walk_at "r2"
    have hz : (sizeLine : Nat) = 16777216 := sizeLine_eq
    refine iteN (fun h1 => ?_) (fun h1 => ?_)
    · rw [ints_len] at h1
      repeat walk_at "r2"
      exact k.bad (dN37 (by omega)) _ (Same.refl _)
    rw [ints_len] at h1
    have hl11 : l.length = 11 := by omega
    have k' := k.good (dS37 hl11) (curves_sg _)
    have h5 := pairs10 hl11
    repeat walk_at "r2"
    rw [cut_to (by omega)]
    intro n1 hn1
    repeat walk_at "r2"
    refine ⟨n1, _, rfl, upd_same, by rw [List.length_take, hl11]; rfl, by rw [List.length_take, hl11]; decide, fun H1 p s1 hp => ?_⟩
    have hp : StepsAt (Nw (upd H n1 (.lst (izs (l.take 10)))) H1) p (Sa20.pairs (l.take 10)) := hp
    obtain ⟨ts, ht1, ht2⟩ := hp
    generalize hps : Sa20.pairs (l.take 10) = ps at *
    have htl : ts.length = 5 := by rw [ht2.length, h5]
    have sH : Same H H1 := (Same.new hn1).trans s1
    have ht3 := (of_nw ht1).2
    repeat walk_at "r2"
    intro D1 hD1
    refine lcL_list (a := p) (xs := ts.map V.ref) (fun i H' => H' D1 = some (.lst (izs ((ps.take i).map fun x : Sa20.Step => x.1))) ∧ Same H1 H') ⟨upd_same, Same.new hD1⟩ (fun i H' _ ⟨_, s⟩ => SqL.of (s _ _ ht3)) ?_ ?_
    · rintro i x H' hx ⟨hD, s⟩
      obtain ⟨t, ht, rfl⟩ := refs_get hx
      obtain ⟨st, hst, htu⟩ := ht2.at ht
      have hil : i < ps.length := (List.getElem?_eq_some_iff.mp hst).1
      repeat walk_at "r2"
      refine rd_ixT (SqT.of (s _ _ (of_nw htu).2)) (v := .int st.1) rfl ?_
      refine ⟨_, hD, by rw [ints_len, List.length_map, List.length_take]; omega, ?_, fun b o h => by rw [upd_ne (ne_of_none h hD1)]; exact s _ _ h⟩
      rw [upd_same, take_snoc hst, List.map_append, ints_app]; rfl
    rintro H2 ⟨hD2, s2⟩
    rw [fold_take ps _ (by rw [List.length_map]; omega)] at hD2
    repeat walk_at "r2"
    refine rd_sumR (SqL.of hD2) ?_
    have ht4 := s2 _ _ ht3
    repeat walk_at "r2"
    intro D2 hD3
    refine lcL_list (a := p) (xs := ts.map V.ref) (fun i H' => H' D2 = some (.lst (izs ((ps.take i).map fun x : Sa20.Step => x.2))) ∧ Same H2 H') ⟨upd_same, Same.new hD3⟩ (fun i H' _ ⟨_, s⟩ => SqL.of (s _ _ ht4)) ?_ ?_
    · rintro i x H' hx ⟨hD, s⟩
      obtain ⟨t, ht, rfl⟩ := refs_get hx
      obtain ⟨st, hst, htu⟩ := ht2.at ht
      have hil : i < ps.length := (List.getElem?_eq_some_iff.mp hst).1
      repeat walk_at "r2"
      refine rd_ixT (SqT.of (s _ _ (s2 _ _ (of_nw htu).2))) (v := .int st.2) rfl ?_
      refine ⟨_, hD, by rw [ints_len, List.length_map, List.length_take]; omega, ?_, fun b o h => by rw [upd_ne (ne_of_none h hD3)]; exact s _ _ h⟩
      rw [upd_same, take_snoc hst, List.map_append, ints_app]; rfl
    rintro H3 ⟨hD4, s3⟩
    rw [fold_take ps _ (by rw [List.length_map]; omega)] at hD4
    repeat walk_at "r2"
    refine rd_sumR (SqL.of hD4) ?_
    have sH3 : Same H H3 := (sH.trans s2).trans s3
    have ha3 := sH3 _ _ ha
    have ht5 := s3 _ _ ht4
    generalize (ps.map fun x : Sa20.Step => x.1).sum = dx at *
    generalize (ps.map fun x : Sa20.Step => x.2).sum = dy at *
    repeat walk_at "r2"
    refine rd_ixL (SqL.of ha3) (v := .int (l.getD 10 0)) (at_intsD (i := 10) (by omega)) ?_
    generalize l.getD 10 0 = z at *
    repeat walk_at "r2"
    refine ⟨ty_list ht5, ?_⟩
    repeat walk_at "r2"
    have fin : ∀ (sx sy : Int), (if dy.natAbs < dx.natAbs then (z, -dy) else (-dx, z)) = (sx, sy) → ∀ t, H3 t = none → ∀ (p1 p2 p3 : Addr), (upd (upd H3 t (.tup [.int sx, .int sy])) p (.lst ((ts ++ [t]).map V.ref))) p1 = none →
        (upd (upd (upd H3 t (.tup [.int sx, .int sy])) p (.lst ((ts ++ [t]).map V.ref))) p1 (.lst (((ts ++ [t]).take 3).map V.ref))) p2 = none →
        (upd (upd (upd (upd H3 t (.tup [.int sx, .int sy])) p (.lst ((ts ++ [t]).map V.ref))) p1 (.lst (((ts ++ [t]).take 3).map V.ref))) p2 (.lst (((ts ++ [t]).drop 3).map V.ref))) p3 = none →
        Q (.ref p3) (upd (upd (upd (upd (upd H3 t (.tup [.int sx, .int sy])) p (.lst ((ts ++ [t]).map V.ref))) p1 (.lst (((ts ++ [t]).take 3).map V.ref))) p2 (.lst (((ts ++ [t]).drop 3).map V.ref))) p3 (.lst [.ref p1, .ref p2])) := by
      intro sx sy hs t ht p1 p2 p3 g1 g2 g3
      rw [hs] at k'
      have hpn : H p = none := (Same.new hn1).free (of_nw ht1).1
      have sX : Same H (upd (upd H3 t (.tup [.int sx, .int sy])) p (.lst ((ts ++ [t]).map V.ref))) := fun b o h => by rw [upd_ne (ne_of_none h hpn)]; exact keepN (sH3 _ _ h) ht
      have sY := sX.trans (Same.new (o := .lst (((ts ++ [t]).take 3).map V.ref)) g1)
      have sZ := sY.trans (Same.new (o := .lst (((ts ++ [t]).drop 3).map V.ref)) g2)
      have ntp : t ≠ p := fun e => by rw [e, ht5] at ht; cases ht
      have kT : Nw H (upd (upd (upd (upd (upd H3 t (.tup [.int sx, .int sy])) p (.lst ((ts ++ [t]).map V.ref))) p1 (.lst (((ts ++ [t]).take 3).map V.ref))) p2 (.lst (((ts ++ [t]).drop 3).map V.ref))) p3 (.lst [.ref p1, .ref p2])) t = some (.tup [.int sx, .int sy]) :=
        nw_of (sH3.free ht) (keepN (keepN (keepN ((upd_ne ntp).trans upd_same) g1) g2) g3)
      have kK : ∀ c vs, Nw (upd H n1 (.lst (izs (l.take 10)))) H1 c = some (.tup vs) → Nw H (upd (upd (upd (upd (upd H3 t (.tup [.int sx, .int sy])) p (.lst ((ts ++ [t]).map V.ref))) p1 (.lst (((ts ++ [t]).take 3).map V.ref))) p2 (.lst (((ts ++ [t]).drop 3).map V.ref))) p3 (.lst [.ref p1, .ref p2])) c = some (.tup vs) := by
        intro c vs h
        have h1 := (of_nw h).2
        have nc : c ≠ p := ne_of h1 ht3 (by intro q; cases q)
        exact nw_of ((Same.new hn1).free (of_nw h).1) (keepN (keepN (keepN ((upd_ne nc).trans (keepN (s3 _ _ (s2 _ _ h1)) ht)) g1) g2) g3)
      refine k' _ _ (sZ.trans (Same.new g3)) ?_
      have w1 := nw_of (H := H) (sZ.free g3) (upd_same (o := .lst [.ref p1, .ref p2]) (H := (upd (upd (upd (upd H3 t (.tup [.int sx, .int sy])) p (.lst ((ts ++ [t]).map V.ref))) p1 (.lst (((ts ++ [t]).take 3).map V.ref))) p2 (.lst (((ts ++ [t]).drop 3).map V.ref)))) (a := p3))
      have w2 := nw_of (H := H) (sX.free g1) (keepN (o := .lst [.ref p1, .ref p2]) (keepN (o := .lst (((ts ++ [t]).drop 3).map V.ref)) (upd_same (o := .lst (((ts ++ [t]).take 3).map V.ref)) (a := p1)) g2) g3)
      have w3 := nw_of (H := H) (sY.free g2) (keepN (o := .lst [.ref p1, .ref p2]) (upd_same (o := .lst (((ts ++ [t]).drop 3).map V.ref)) (a := p2)) g3)
      refine ⟨[p1, p2], w1, ?_⟩
      have al : All2 (fun c (s : Sa20.Step) => Nw H (upd (upd (upd (upd (upd H3 t (.tup [.int sx, .int sy])) p (.lst ((ts ++ [t]).map V.ref))) p1 (.lst (((ts ++ [t]).take 3).map V.ref))) p2 (.lst (((ts ++ [t]).drop 3).map V.ref))) p3 (.lst [.ref p1, .ref p2])) c = some (.tup [.int s.1, .int s.2])) (ts ++ [t]) (ps ++ [(sx, sy)]) :=
        by
          refine All2.snoc ?_ (ht2.imp fun _ _ q => kK _ _ q)
          exact kT
      have e6 : triples (ps ++ [(sx, sy)]) = [(ps ++ [(sx, sy)]).take 3, (ps ++ [(sx, sy)]).drop 3] := by
        match ps, h5 with
        | [_, _, _, _, _], _ => rfl
      rw [e6]
      exact .cons ⟨_, w2, al.take 3⟩ (.cons ⟨_, w3, al.drop 3⟩ .nil)
    have c0 : ∀ t : Addr, ts.map V.ref ++ [V.ref t] = (ts ++ [t]).map V.ref := fun t => by rw [List.map_append]; rfl
    have c1 : ∀ t : Addr, cutV ((ts ++ [t]).map V.ref) none (some 3) = ((ts ++ [t]).take 3).map V.ref := fun t => cut_refs_to _ 3 (by rw [List.length_append, htl]; show 3 ≤ 5 + 1; decide)
    have c2 : ∀ t : Addr, cutV ((ts ++ [t]).map V.ref) (some 3) none = ((ts ++ [t]).drop 3).map V.ref := fun t => cut_refs_from _ 3 (by rw [List.length_append, htl]; show 3 ≤ 5 + 1; decide)
    refine iteD (fun h2 => ?_) (fun h2 => ?_)
    · repeat walk_at "r2"
      refine ⟨by show 2 ≤ sizeLine; decide, fun t ht => ?_⟩
      repeat walk_at "r2"
      refine rd_append (keepN ht5 ht) (by rw [List.length_map]; omega) ?_
      rw [c0]
      repeat walk_at "r2"
      rw [c1]
      intro p1 g1
      repeat walk_at "r2"
      rw [c2]
      intro p2 g2
      repeat walk_at "r2"
      refine ⟨by show 2 ≤ sizeLine; decide, fun p3 g3 => ?_⟩
      exact fin _ _ (if_pos (by split at h2 <;> split at h2 <;> omega)) t ht p1 p2 p3 g1 g2 g3
    · repeat walk_at "r2"
      refine ⟨by show 2 ≤ sizeLine; decide, fun t ht => ?_⟩
      repeat walk_at "r2"
      refine rd_append (keepN ht5 ht) (by rw [List.length_map]; omega) ?_
      rw [c0]
      repeat walk_at "r2"
      rw [c1]
      intro p1 g1
      repeat walk_at "r2"
      rw [c2]
      intro p2 g2
      repeat walk_at "r2"
      refine ⟨by show 2 ≤ sizeLine; decide, fun p3 g3 => ?_⟩
      exact fin _ _ (if_neg (by split at h2 <;> split at h2 <;> omega)) t ht p1 p2 p3 g1 g2 g3
abbrev kvPIECES (mg : Str → Option Value) : List (Key × V) := [(.inl 5, gv mg "lines"), (.inl 6, gv mg "lines_from_x"), (.inl 7, gv mg "lines_from_y"), (.inl 8, gv mg "curves"), (.inl 24, gv mg "curves_then_line"), (.inl 25, gv mg "lines_then_curve"), (.inl 26, gv mg "standing_curves"), (.inl 27, gv mg "level_curves"), (.inl 30, gv mg "curves_from_upright"), (.inl 31, gv mg "curves_from_flat"), (.inl 1234, gv mg "two_curves_of_seven"), (.inl 1235, gv mg "two_curves_of_thirteen"), (.inl 1236, gv mg "two_curves_of_nine"), (.inl 1237, gv mg "two_curves_of_eleven")]
abbrev kvPATHS (mg : Str → Option Value) : List (Key × V) := [(.inl 4, gv mg "move_along_y"), (.inl 14, gv mg "end"), (.inl 21, gv mg "move"), (.inl 22, gv mg "move_along_x")]
abbrev kvHINTING (mg : Str → Option Value) : List (Key × V) := [(.inl 1, gv mg "stems"), (.inl 3, gv mg "stems"), (.inl 18, gv mg "stems"), (.inl 23, gv mg "stems"), (.inl 19, gv mg "mask"), (.inl 20, gv mg "mask")]
abbrev kvKEEPING (mg : Str → Option Value) : List (Key × V) := [(.inl 1218, gv mg "drop"), (.inl 1220, gv mg "put_in_cell"), (.inl 1221, gv mg "take_from_cell"), (.inl 1227, gv mg "double"), (.inl 1228, gv mg "swap"), (.inl 1229, gv mg "once_more"), (.inl 1230, gv mg "turn")]
abbrev kvCALLING (mg : Str → Option Value) : List (Key × V) := [(.inl 10, gv mg "call_own"), (.inl 11, gv mg "leave"), (.inl 29, gv mg "call_common")]
def MdI (kvs : List (Key × V)) (y : V) (H1 : Hp) (Q : VK) : Prop := ∃ i, y = .int i ∧ Q (.bl (valV kvs (.inl i)).isSome) H1
def MdG (kvs : List (Key × V)) (y : V) (H1 : Hp) (Q : VK) : Prop := ∃ i, y = .int i ∧ Q ((valV kvs (.inl i)).getD .non) H1
def MdX (kvs : List (Key × V)) (y : V) (H1 : Hp) (Q : VK) : Prop := ∃ i v, y = .int i ∧ valV kvs (.inl i) = some v ∧ Q v H1
section
variable {kvs : List (Key × V)} {te : TE} {σ : St} {H : Hp} {Q : VK} {i : Int} {v : V}
theorem rd_mdIn (h : te σ H fun y H1 => MdI kvs y H1 Q) : tMdIn kvs te σ H Q := h
theorem rd_mdGet (h : te σ H fun y H1 => MdG kvs y H1 Q) : tMd kvs te σ H Q := h
theorem rd_mdIx (h : te σ H fun y H1 => MdX kvs y H1 Q) : tMdIx kvs te σ H Q := h
theorem rd_mdI (h : Q (.bl (valV kvs (.inl i)).isSome) H) : MdI kvs (.int i) H Q := ⟨i, rfl, h⟩
theorem rd_mdG (h : Q ((valV kvs (.inl i)).getD .non) H) : MdG kvs (.int i) H Q := ⟨i, rfl, h⟩
theorem rd_mdX (e : valV kvs (.inl i) = some v) (h : Q v H) : MdX kvs (.int i) H Q := ⟨i, v, rfl, e, h⟩
end
def deedV (mg : Str → Option Value) (i : Int) : V := match valV (kvPATHS mg) (.inl i) with
  | some v => v
  | none => match valV (kvHINTING mg) (.inl i) with
    | some v => v
    | none => match valV (kvKEEPING mg) (.inl i) with
      | some v => v
      | none => (valV (kvCALLING mg) (.inl i)).getD .non
def spDeedOf (mg : Str → Option Value) : Sp := fun vs H Q _ => ∃ i, vs = [.int i] ∧ Q (deedV mg i) H
theorem iteSome {o : Option V} {A B : Prop} (h : ∀ v, o = some v → A) (h' : o = none → B) : if o.isSome = true then A else B := by
  cases o with
  | some v => exact iteT (h v rfl)
  | none => exact iteF (h' rfl)
theorem def_deed_of (T : Txt P w K mg CR CS) : Def P w K mg base "deed_of" 1 ["operator"] (spDeedOf mg) := by
  refine T.f_deed_of.mk sc_deed_of (fun _ _ _ _ _ _ us hl => match us, hl with | [_], _ => rfl) (fun vs H Q E h => ?_) (fun f cdv A outer s H vs Q E hr h => ?_)
  · obtain ⟨i, rfl, k⟩ := h; rfl
  · obtain ⟨i, rfl, k⟩ := h
    refine ⟨_, (pss_cons (ps_if (pt_cmp (pc_mdin T.d_PATHS (pv 0)) (by with_unfolding_all rfl)) (pss_one (ps_ret (pe_mdix T.d_PATHS (pv 0) (fun _ _ => rfl)))) pss_nil) (pss_cons (ps_if (pt_cmp (pc_mdin T.d_HINTING (pv 0)) (by with_unfolding_all rfl)) (pss_one (ps_ret (pe_mdix T.d_HINTING (pv 0) (fun _ _ => rfl)))) pss_nil) (pss_cons (ps_if (pt_cmp (pc_mdin T.d_KEEPING (pv 0)) (by with_unfolding_all rfl)) (pss_one (ps_ret (pe_mdix T.d_KEEPING (pv 0) (fun _ _ => rfl)))) pss_nil) (pss_one (ps_ret (pe_mdget T.d_CALLING (pv 0) ⟨rfl, rfl, rfl, rfl⟩)))))), ?_⟩
    repeat (first | walk_at "r2" | (with_reducible refine rd_mdIn ?_) | (with_reducible refine rd_mdGet ?_) | (with_reducible refine rd_mdIx ?_) | (with_reducible refine rd_mdI ?_) | (with_reducible refine rd_mdG ?_))
    refine iteSome (fun v hv => ?_) (fun hv => ?_)
    · rw [show deedV mg i = v by unfold deedV; rw [hv]] at k
      repeat (first | walk_at "r2" | (with_reducible refine rd_mdIn ?_) | (with_reducible refine rd_mdGet ?_) | (with_reducible refine rd_mdIx ?_) | (with_reducible refine rd_mdI ?_) | (with_reducible refine rd_mdG ?_))
      exact rd_mdX hv k
    repeat (first | walk_at "r2" | (with_reducible refine rd_mdIn ?_) | (with_reducible refine rd_mdGet ?_) | (with_reducible refine rd_mdIx ?_) | (with_reducible refine rd_mdI ?_) | (with_reducible refine rd_mdG ?_))
    refine iteSome (fun v hv2 => ?_) (fun hv2 => ?_)
    · rw [show deedV mg i = v by unfold deedV; rw [hv]; simp only; rw [hv2]] at k
      repeat (first | walk_at "r2" | (with_reducible refine rd_mdIn ?_) | (with_reducible refine rd_mdGet ?_) | (with_reducible refine rd_mdIx ?_) | (with_reducible refine rd_mdI ?_) | (with_reducible refine rd_mdG ?_))
      exact rd_mdX hv2 k
    repeat (first | walk_at "r2" | (with_reducible refine rd_mdIn ?_) | (with_reducible refine rd_mdGet ?_) | (with_reducible refine rd_mdIx ?_) | (with_reducible refine rd_mdI ?_) | (with_reducible refine rd_mdG ?_))
    refine iteSome (fun v hv3 => ?_) (fun hv3 => ?_)
    · rw [show deedV mg i = v by unfold deedV; rw [hv]; simp only; rw [hv2]; simp only; rw [hv3]] at k
      repeat (first | walk_at "r2" | (with_reducible refine rd_mdIn ?_) | (with_reducible refine rd_mdGet ?_) | (with_reducible refine rd_mdIx ?_) | (with_reducible refine rd_mdI ?_) | (with_reducible refine rd_mdG ?_))
      exact rd_mdX hv3 k
    repeat (first | walk_at "r2" | (with_reducible refine rd_mdIn ?_) | (with_reducible refine rd_mdGet ?_) | (with_reducible refine rd_mdIx ?_) | (with_reducible refine rd_mdI ?_) | (with_reducible refine rd_mdG ?_))
    rw [show deedV mg i = (valV (kvCALLING mg) (.inl i)).getD .non by unfold deedV; rw [hv]; simp only; rw [hv2]; simp only; rw [hv3]] at k
    exact k
def opInt (k : Nat) : Int := if k < 256 then (k : Int) else (k : Int) + 944
abbrev kvREC (t0 t1 t2 t3 t4 t5 t6 t7 t8 t9 t10 t11 : Addr) : List (Key × V) := [(.inl 1203, .ref t0), (.inl 1204, .ref t1), (.inl 1205, .ref t2), (.inl 1209, .ref t3), (.inl 1210, .ref t4), (.inl 1211, .ref t5), (.inl 1212, .ref t6), (.inl 1214, .ref t7), (.inl 1215, .ref t8), (.inl 1222, .ref t9), (.inl 1224, .ref t10), (.inl 1226, .ref t11)]
theorem valV_ne {kvs : List (Key × V)} {a : Key} {v : V} {b : Key} (h : a ≠ b) : valV ((a, v) :: kvs) b = valV kvs b := by
  unfold valV
  rw [List.find?_cons_of_neg (by simpa using h)]
theorem opInt_inj {k j : Nat} (hk : k < 512) (hj : j < 512) (e : opInt j = opInt k) : k = j := by
  unfold opInt at e
  split at e <;> split at e <;> omega
theorem ne_key {k j : Nat} {i : Int} (hi : opInt j = i) (hn : ¬ k = j) (hk : k < 512) (hj : j < 512 := by decide) : (Sum.inl i : Key) ≠ Sum.inl (opInt k) := fun e => hn (opInt_inj hk hj (hi.trans (Sum.inl.inj e)))
def Cls4 (P : Program) (w : World) (K : PySem.W.Frag) (mg : Str → Option Value) (base : Heap) (CR : Addr) (rec : List (Key × V)) (k : Nat) : Prop :=
  (∃ f, (valV (kvPIECES mg) (.inl (opInt k))).getD .non = .ref f ∧ isDraw k ∧ FV P w K mg base f 4 ["numbers"] (spPieces k)) ∨
  ((valV (kvPIECES mg) (.inl (opInt k))).getD .non = .non ∧ ∃ ta f, (valV rec (.inl (opInt k))).getD .non = .ref ta ∧ tupAt K ta [.int (madeOf k : Nat), .ref f] ∧ isMade k ∧ FV P w K mg base f 2 ["numbers"] (spMade K k)) ∨
  ((valV (kvPIECES mg) (.inl (opInt k))).getD .non = .non ∧ (valV rec (.inl (opInt k))).getD .non = .non ∧ ∃ f, deedV mg (opInt k) = .ref f ∧ FV P w K mg base f 4 ["run"] (spDeed K CR k)) ∨
  ((valV (kvPIECES mg) (.inl (opInt k))).getD .non = .non ∧ (valV rec (.inl (opInt k))).getD .non = .non ∧ deedV mg (opInt k) = .non ∧ ∀ t room q, Sa20.operate t room k q = .bad (-4))
theorem cls4 (T : Txt P w K mg CR CS) {t0 t1 t2 t3 t4 t5 t6 t7 t8 t9 t10 t11 : Addr} (h0 : tupAt K t0 [.int 2, gv mg "both"]) (h1 : tupAt K t1 [.int 2, gv mg "either"]) (h2 : tupAt K t2 [.int 1, gv mg "is_zero"]) (h3 : tupAt K t3 [.int 1, gv mg "without_sign"]) (h4 : tupAt K t4 [.int 2, gv mg "plus"]) (h5 : tupAt K t5 [.int 2, gv mg "minus"]) (h6 : tupAt K t6 [.int 2, gv mg "divided"]) (h7 : tupAt K t7 [.int 1, gv mg "other_sign"]) (h8 : tupAt K t8 [.int 2, gv mg "equal"]) (h9 : tupAt K t9 [.int 4, gv mg "chosen"]) (h10 : tupAt K t10 [.int 2, gv mg "times"]) (h11 : tupAt K t11 [.int 1, gv mg "root"]) (k : Nat) (hk : k < 512) :
    Cls4 P w K mg base CR (kvREC t0 t1 t2 t3 t4 t5 t6 t7 t8 t9 t10 t11) k := by
  by_cases c5 : k = 5
  · subst c5
    obtain ⟨f, e, F⟩ := def_lines (base := base) T
    exact .inl ⟨f, gv_of e, by unfold isDraw; decide, F.mono (by decide)⟩
  by_cases c6 : k = 6
  · subst c6
    obtain ⟨f, e, F⟩ := def_lines_from_x (base := base) T
    exact .inl ⟨f, gv_of e, by unfold isDraw; decide, F.mono (by decide)⟩
  by_cases c7 : k = 7
  · subst c7
    obtain ⟨f, e, F⟩ := def_lines_from_y (base := base) T
    exact .inl ⟨f, gv_of e, by unfold isDraw; decide, F.mono (by decide)⟩
  by_cases c8 : k = 8
  · subst c8
    obtain ⟨f, e, F⟩ := def_curves (base := base) T
    exact .inl ⟨f, gv_of e, by unfold isDraw; decide, F.mono (by decide)⟩
  by_cases c24 : k = 24
  · subst c24
    obtain ⟨f, e, F⟩ := def_curves_then_line (base := base) T
    exact .inl ⟨f, gv_of e, by unfold isDraw; decide, F.mono (by decide)⟩
  by_cases c25 : k = 25
  · subst c25
    obtain ⟨f, e, F⟩ := def_lines_then_curve (base := base) T
    exact .inl ⟨f, gv_of e, by unfold isDraw; decide, F.mono (by decide)⟩
  by_cases c26 : k = 26
  · subst c26
    obtain ⟨f, e, F⟩ := def_standing_curves (base := base) T
    exact .inl ⟨f, gv_of e, by unfold isDraw; decide, F.mono (by decide)⟩
  by_cases c27 : k = 27
  · subst c27
    obtain ⟨f, e, F⟩ := def_level_curves (base := base) T
    exact .inl ⟨f, gv_of e, by unfold isDraw; decide, F.mono (by decide)⟩
  by_cases c30 : k = 30
  · subst c30
    obtain ⟨f, e, F⟩ := def_curves_from_upright (base := base) T
    exact .inl ⟨f, gv_of e, by unfold isDraw; decide, F.mono (by decide)⟩
  by_cases c31 : k = 31
  · subst c31
    obtain ⟨f, e, F⟩ := def_curves_from_flat (base := base) T
    exact .inl ⟨f, gv_of e, by unfold isDraw; decide, F.mono (by decide)⟩
  by_cases c290 : k = 290
  · subst c290
    obtain ⟨f, e, F⟩ := def_two_curves_of_seven (base := base) T
    exact .inl ⟨f, gv_of e, by unfold isDraw; decide, F.mono (by decide)⟩
  by_cases c291 : k = 291
  · subst c291
    obtain ⟨f, e, F⟩ := def_two_curves_of_thirteen (base := base) T
    exact .inl ⟨f, gv_of e, by unfold isDraw; decide, F.mono (by decide)⟩
  by_cases c292 : k = 292
  · subst c292
    obtain ⟨f, e, F⟩ := def_two_curves_of_nine (base := base) T
    exact .inl ⟨f, gv_of e, by unfold isDraw; decide, F.mono (by decide)⟩
  by_cases c293 : k = 293
  · subst c293
    obtain ⟨f, e, F⟩ := def_two_curves_of_eleven (base := base) T
    exact .inl ⟨f, gv_of e, by unfold isDraw; decide, F.mono (by decide)⟩
  by_cases c259 : k = 259
  · subst c259
    obtain ⟨f, e, F⟩ := def_both (base := base) T
    rw [gv_of e] at h0
    exact .inr (.inl ⟨rfl, t0, f, rfl, h0, by unfold isMade; decide, F.mono (by decide)⟩)
  by_cases c260 : k = 260
  · subst c260
    obtain ⟨f, e, F⟩ := def_either (base := base) T
    rw [gv_of e] at h1
    exact .inr (.inl ⟨rfl, t1, f, rfl, h1, by unfold isMade; decide, F.mono (by decide)⟩)
  by_cases c261 : k = 261
  · subst c261
    obtain ⟨f, e, F⟩ := def_is_zero (base := base) T
    rw [gv_of e] at h2
    exact .inr (.inl ⟨rfl, t2, f, rfl, h2, by unfold isMade; decide, F.mono (by decide)⟩)
  by_cases c265 : k = 265
  · subst c265
    obtain ⟨f, e, F⟩ := def_without_sign (base := base) T
    rw [gv_of e] at h3
    exact .inr (.inl ⟨rfl, t3, f, rfl, h3, by unfold isMade; decide, F.mono (by decide)⟩)
  by_cases c266 : k = 266
  · subst c266
    obtain ⟨f, e, F⟩ := def_plus (base := base) T
    rw [gv_of e] at h4
    exact .inr (.inl ⟨rfl, t4, f, rfl, h4, by unfold isMade; decide, F.mono (by decide)⟩)
  by_cases c267 : k = 267
  · subst c267
    obtain ⟨f, e, F⟩ := def_minus (base := base) T
    rw [gv_of e] at h5
    exact .inr (.inl ⟨rfl, t5, f, rfl, h5, by unfold isMade; decide, F.mono (by decide)⟩)
  by_cases c268 : k = 268
  · subst c268
    obtain ⟨f, e, F⟩ := def_divided (base := base) T
    rw [gv_of e] at h6
    exact .inr (.inl ⟨rfl, t6, f, rfl, h6, by unfold isMade; decide, F.mono (by decide)⟩)
  by_cases c270 : k = 270
  · subst c270
    obtain ⟨f, e, F⟩ := def_other_sign (base := base) T
    rw [gv_of e] at h7
    exact .inr (.inl ⟨rfl, t7, f, rfl, h7, by unfold isMade; decide, F.mono (by decide)⟩)
  by_cases c271 : k = 271
  · subst c271
    obtain ⟨f, e, F⟩ := def_equal (base := base) T
    rw [gv_of e] at h8
    exact .inr (.inl ⟨rfl, t8, f, rfl, h8, by unfold isMade; decide, F.mono (by decide)⟩)
  by_cases c278 : k = 278
  · subst c278
    obtain ⟨f, e, F⟩ := def_chosen (base := base) T
    rw [gv_of e] at h9
    exact .inr (.inl ⟨rfl, t9, f, rfl, h9, by unfold isMade; decide, F.mono (by decide)⟩)
  by_cases c280 : k = 280
  · subst c280
    obtain ⟨f, e, F⟩ := def_times (base := base) T
    rw [gv_of e] at h10
    exact .inr (.inl ⟨rfl, t10, f, rfl, h10, by unfold isMade; decide, F.mono (by decide)⟩)
  by_cases c282 : k = 282
  · subst c282
    obtain ⟨f, e, F⟩ := def_root (base := base) T
    rw [gv_of e] at h11
    exact .inr (.inl ⟨rfl, t11, f, rfl, h11, by unfold isMade; decide, F.mono (by decide)⟩)
  by_cases c1 : k = 1
  · subst c1
    obtain ⟨f, e, F⟩ := def_stems (base := base) T
    exact .inr (.inr (.inl ⟨rfl, rfl, f, gv_of e, (F.imp fun _ _ _ _ h => ⟨1, by decide, h⟩).mono (by decide)⟩))
  by_cases c3 : k = 3
  · subst c3
    obtain ⟨f, e, F⟩ := def_stems (base := base) T
    exact .inr (.inr (.inl ⟨rfl, rfl, f, gv_of e, (F.imp fun _ _ _ _ h => ⟨3, by decide, h⟩).mono (by decide)⟩))
  by_cases c18 : k = 18
  · subst c18
    obtain ⟨f, e, F⟩ := def_stems (base := base) T
    exact .inr (.inr (.inl ⟨rfl, rfl, f, gv_of e, (F.imp fun _ _ _ _ h => ⟨18, by decide, h⟩).mono (by decide)⟩))
  by_cases c23 : k = 23
  · subst c23
    obtain ⟨f, e, F⟩ := def_stems (base := base) T
    exact .inr (.inr (.inl ⟨rfl, rfl, f, gv_of e, (F.imp fun _ _ _ _ h => ⟨23, by decide, h⟩).mono (by decide)⟩))
  by_cases c19 : k = 19
  · subst c19
    obtain ⟨f, e, F⟩ := def_mask (base := base) T
    exact .inr (.inr (.inl ⟨rfl, rfl, f, gv_of e, (F.imp fun _ _ _ _ h => ⟨19, by decide, h⟩).mono (by decide)⟩))
  by_cases c20 : k = 20
  · subst c20
    obtain ⟨f, e, F⟩ := def_mask (base := base) T
    exact .inr (.inr (.inl ⟨rfl, rfl, f, gv_of e, (F.imp fun _ _ _ _ h => ⟨20, by decide, h⟩).mono (by decide)⟩))
  by_cases c21 : k = 21
  · subst c21
    obtain ⟨f, e, F⟩ := def_move (base := base) T
    exact .inr (.inr (.inl ⟨rfl, rfl, f, gv_of e, (F).mono (by decide)⟩))
  by_cases c22 : k = 22
  · subst c22
    obtain ⟨f, e, F⟩ := def_move_along_x (base := base) T
    exact .inr (.inr (.inl ⟨rfl, rfl, f, gv_of e, (F).mono (by decide)⟩))
  by_cases c4 : k = 4
  · subst c4
    obtain ⟨f, e, F⟩ := def_move_along_y (base := base) T
    exact .inr (.inr (.inl ⟨rfl, rfl, f, gv_of e, (F).mono (by decide)⟩))
  by_cases c14 : k = 14
  · subst c14
    obtain ⟨f, e, F⟩ := def_end (base := base) T
    exact .inr (.inr (.inl ⟨rfl, rfl, f, gv_of e, (F).mono (by decide)⟩))
  by_cases c10 : k = 10
  · subst c10
    obtain ⟨f, e, F⟩ := def_call_own (base := base) T
    exact .inr (.inr (.inl ⟨rfl, rfl, f, gv_of e, (F).mono (by decide)⟩))
  by_cases c11 : k = 11
  · subst c11
    obtain ⟨f, e, F⟩ := def_leave (base := base) T
    exact .inr (.inr (.inl ⟨rfl, rfl, f, gv_of e, (F).mono (by decide)⟩))
  by_cases c29 : k = 29
  · subst c29
    obtain ⟨f, e, F⟩ := def_call_common (base := base) T
    exact .inr (.inr (.inl ⟨rfl, rfl, f, gv_of e, (F).mono (by decide)⟩))
  by_cases c274 : k = 274
  · subst c274
    obtain ⟨f, e, F⟩ := def_drop (base := base) T
    exact .inr (.inr (.inl ⟨rfl, rfl, f, gv_of e, (F).mono (by decide)⟩))
  by_cases c276 : k = 276
  · subst c276
    obtain ⟨f, e, F⟩ := def_put_in_cell (base := base) T
    exact .inr (.inr (.inl ⟨rfl, rfl, f, gv_of e, (F).mono (by decide)⟩))
  by_cases c277 : k = 277
  · subst c277
    obtain ⟨f, e, F⟩ := def_take_from_cell (base := base) T
    exact .inr (.inr (.inl ⟨rfl, rfl, f, gv_of e, (F).mono (by decide)⟩))
  by_cases c283 : k = 283
  · subst c283
    obtain ⟨f, e, F⟩ := def_double (base := base) T
    exact .inr (.inr (.inl ⟨rfl, rfl, f, gv_of e, (F).mono (by decide)⟩))
  by_cases c284 : k = 284
  · subst c284
    obtain ⟨f, e, F⟩ := def_swap (base := base) T
    exact .inr (.inr (.inl ⟨rfl, rfl, f, gv_of e, (F).mono (by decide)⟩))
  by_cases c285 : k = 285
  · subst c285
    obtain ⟨f, e, F⟩ := def_once_more (base := base) T
    exact .inr (.inr (.inl ⟨rfl, rfl, f, gv_of e, (F).mono (by decide)⟩))
  by_cases c286 : k = 286
  · subst c286
    obtain ⟨f, e, F⟩ := def_turn (base := base) T
    exact .inr (.inr (.inl ⟨rfl, rfl, f, gv_of e, (F).mono (by decide)⟩))
  have e1 : valV (kvPIECES mg) (.inl (opInt k)) = none := (valV_ne (ne_key (j := 5) rfl c5 hk)).trans <| (valV_ne (ne_key (j := 6) rfl c6 hk)).trans <| (valV_ne (ne_key (j := 7) rfl c7 hk)).trans <| (valV_ne (ne_key (j := 8) rfl c8 hk)).trans <| (valV_ne (ne_key (j := 24) rfl c24 hk)).trans <| (valV_ne (ne_key (j := 25) rfl c25 hk)).trans <| (valV_ne (ne_key (j := 26) rfl c26 hk)).trans <| (valV_ne (ne_key (j := 27) rfl c27 hk)).trans <| (valV_ne (ne_key (j := 30) rfl c30 hk)).trans <| (valV_ne (ne_key (j := 31) rfl c31 hk)).trans <| (valV_ne (ne_key (j := 290) rfl c290 hk)).trans <| (valV_ne (ne_key (j := 291) rfl c291 hk)).trans <| (valV_ne (ne_key (j := 292) rfl c292 hk)).trans <| (valV_ne (ne_key (j := 293) rfl c293 hk))
  have e2 : valV (kvREC t0 t1 t2 t3 t4 t5 t6 t7 t8 t9 t10 t11) (.inl (opInt k)) = none := (valV_ne (ne_key (j := 259) rfl c259 hk)).trans <| (valV_ne (ne_key (j := 260) rfl c260 hk)).trans <| (valV_ne (ne_key (j := 261) rfl c261 hk)).trans <| (valV_ne (ne_key (j := 265) rfl c265 hk)).trans <| (valV_ne (ne_key (j := 266) rfl c266 hk)).trans <| (valV_ne (ne_key (j := 267) rfl c267 hk)).trans <| (valV_ne (ne_key (j := 268) rfl c268 hk)).trans <| (valV_ne (ne_key (j := 270) rfl c270 hk)).trans <| (valV_ne (ne_key (j := 271) rfl c271 hk)).trans <| (valV_ne (ne_key (j := 278) rfl c278 hk)).trans <| (valV_ne (ne_key (j := 280) rfl c280 hk)).trans <| (valV_ne (ne_key (j := 282) rfl c282 hk))
  have e3 : valV (kvPATHS mg) (.inl (opInt k)) = none := (valV_ne (ne_key (j := 4) rfl c4 hk)).trans <| (valV_ne (ne_key (j := 14) rfl c14 hk)).trans <| (valV_ne (ne_key (j := 21) rfl c21 hk)).trans <| (valV_ne (ne_key (j := 22) rfl c22 hk))
  have e4 : valV (kvHINTING mg) (.inl (opInt k)) = none := (valV_ne (ne_key (j := 1) rfl c1 hk)).trans <| (valV_ne (ne_key (j := 3) rfl c3 hk)).trans <| (valV_ne (ne_key (j := 18) rfl c18 hk)).trans <| (valV_ne (ne_key (j := 23) rfl c23 hk)).trans <| (valV_ne (ne_key (j := 19) rfl c19 hk)).trans <| (valV_ne (ne_key (j := 20) rfl c20 hk))
  have e5 : valV (kvKEEPING mg) (.inl (opInt k)) = none := (valV_ne (ne_key (j := 274) rfl c274 hk)).trans <| (valV_ne (ne_key (j := 276) rfl c276 hk)).trans <| (valV_ne (ne_key (j := 277) rfl c277 hk)).trans <| (valV_ne (ne_key (j := 283) rfl c283 hk)).trans <| (valV_ne (ne_key (j := 284) rfl c284 hk)).trans <| (valV_ne (ne_key (j := 285) rfl c285 hk)).trans <| (valV_ne (ne_key (j := 286) rfl c286 hk))
  have e6 : valV (kvCALLING mg) (.inl (opInt k)) = none := (valV_ne (ne_key (j := 10) rfl c10 hk)).trans <| (valV_ne (ne_key (j := 11) rfl c11 hk)).trans <| (valV_ne (ne_key (j := 29) rfl c29 hk))
  refine .inr (.inr (.inr ⟨by rw [e1]; rfl, by rw [e2]; rfl, by unfold deedV; rw [e3]; simp only; rw [e4]; simp only; rw [e5]; simp only; rw [e6]; rfl, fun t room q => ?_⟩))
  have g1 : ¬ special k := fun h => Or.elim h c1 (fun h => Or.elim h c3 (fun h => Or.elim h c18 (fun h => Or.elim h c23 (fun h => Or.elim h c19 (fun h => Or.elim h c20 (fun h => Or.elim h c21 (fun h => Or.elim h c22 (fun h => Or.elim h c4 (fun h => Or.elim h c14 (fun h => Or.elim h c10 (fun h => Or.elim h c29 (c11))))))))))))
  have g2 : ¬ (k = 5 ∨ k = 6 ∨ k = 7 ∨ k = 8 ∨ k = 24 ∨ k = 25 ∨ k = 26 ∨ k = 27 ∨ k = 30 ∨ k = 31 ∨ k = 290 ∨ k = 291 ∨ k = 292 ∨ k = 293) := fun h => Or.elim h c5 (fun h => Or.elim h c6 (fun h => Or.elim h c7 (fun h => Or.elim h c8 (fun h => Or.elim h c24 (fun h => Or.elim h c25 (fun h => Or.elim h c26 (fun h => Or.elim h c27 (fun h => Or.elim h c30 (fun h => Or.elim h c31 (fun h => Or.elim h c290 (fun h => Or.elim h c291 (fun h => Or.elim h c292 (c293)))))))))))))
  have g3 : ¬ (k = 259 ∨ k = 260 ∨ k = 261 ∨ k = 265 ∨ k = 270 ∨ k = 266 ∨ k = 267 ∨ k = 280 ∨ k = 268 ∨ k = 282 ∨ k = 271 ∨ k = 278 ∨ k = 274 ∨ k = 283 ∨ k = 284 ∨ k = 276 ∨ k = 277 ∨ k = 285 ∨ k = 286) := fun h => Or.elim h c259 (fun h => Or.elim h c260 (fun h => Or.elim h c261 (fun h => Or.elim h c265 (fun h => Or.elim h c270 (fun h => Or.elim h c266 (fun h => Or.elim h c267 (fun h => Or.elim h c280 (fun h => Or.elim h c268 (fun h => Or.elim h c282 (fun h => Or.elim h c271 (fun h => Or.elim h c278 (fun h => Or.elim h c274 (fun h => Or.elim h c283 (fun h => Or.elim h c284 (fun h => Or.elim h c276 (fun h => Or.elim h c277 (fun h => Or.elim h c285 (c286))))))))))))))))))
  rw [op_top g1 g2, reckon_none g3]
structure Oks (t : Sa20.Subrs) (most : Int) (q : Sa20.Run) : Prop where
  ok : Okq most.toNat q
  m0 : 0 ≤ most
  m1 : most ≤ 1048576
  so : t.own.length ≤ 2048
  sc : t.common.length ≤ 2048
def spOperate (K : PySem.W.Frag) (CR : Addr) : Sp := fun vs H Q _ => ∃ k, k < 512 ∧ ∃ HB H0 t most r A dx q, vs = [.ref r, .int (opInt k)] ∧ Rep K CR HB H0 t most H r A dx q false ∧ Okx t most q ∧ Out K CR HB H0 t most r (Sa20.operate t most.toNat k q) Q
def spPushNum (K : PySem.W.Frag) (CR : Addr) : Sp := fun vs H Q _ => ∃ HB H0 t most r A dx q fr rest b, vs = [.ref r, .int b] ∧ Rep K CR HB H0 t most H r A dx q false ∧ q.stack.length ≤ 48 ∧ q.frames = fr :: rest ∧ fr.pc ≤ fr.code.length ∧
  Out K CR HB H0 t most r (if (fr.code.drop fr.pc).length < (nBehind b).toNat then .bad (-7) else if 48 ≤ q.stack.length then .bad (-2) else
    .on { Sa20.behind q (nBehind b).toNat with stack := q.stack ++ [numOf b (((fr.code.drop fr.pc).take (nBehind b).toNat).map bz)] }) Q
def spStep (K : PySem.W.Frag) (CR : Addr) : Sp := fun vs H Q _ => ∃ HB H0 t most r A dx q, vs = [.ref r] ∧ Rep K CR HB H0 t most H r A dx q false ∧ Oks t most q ∧ Out K CR HB H0 t most r (Sa20.step t most.toNat q) Q
theorem rd_deedOf {mg : Str → Option Value} {i : Int} {v : V} {H : Hp} {Q : VK} {E : XK} (e : deedV mg i = v) (h : Q v H) : spDeedOf mg [.int i] H Q E := ⟨i, rfl, by rw [e]; exact h⟩
theorem nB0 (b : Int) : 0 ≤ nBehind b ∧ nBehind b ≤ 4 := by
  unfold nBehind
  split
  · omega
  · split
    · omega
    · split <;> omega
theorem bytes_at {c : Sa20.Bytes} {i : Nat} (h : i < c.length) : atI (bytesV c) (i : Int) = some (.int (bz c[i])) := atI_nat (by unfold bytesV izs; rw [List.getElem?_map, List.getElem?_map, List.getElem?_eq_getElem h]; rfl)
theorem opInt_lo {k : Nat} (h : k < 256) : opInt k = (k : Int) := if_pos h
theorem opInt_hi (k : Nat) : opInt (256 + k) = 1200 + (k : Int) := by unfold opInt; rw [if_neg (by omega)]; omega
theorem def_operate (T : Txt P w K mg CR CS) : Def P w K mg base "operate" 6 ["run", "operator"] (spOperate K CR) := by
  refine T.f_operate.mk sc_operate (fun _ _ _ _ _ _ us hl => match us, hl with | [_, _], _ => rfl) (fun vs H Q E h => ?_) (fun f cdv A outer s H vs Q E hr h => ?_)
  · obtain ⟨kk, hk, HB, H0, t, most, r, A1, dx, q, rfl, R, X, out⟩ := h; rfl
  · obtain ⟨kk, hk, HB, H0, t, most, r, A1, dx, q, rfl, R, X, out⟩ := h
    have ri := R.ins
    have rs := R.st
    obtain ⟨t0, t1, t2, t3, t4, t5, t6, t7, t8, t9, t10, t11, dR, h0, h1, h2, h3, h4, h5, h6, h7, h8, h9, h10, h11⟩ := T.d_RECKONED
    obtain ⟨fdr, edr, Fdr⟩ := def_drop (base := base) T
    rcases cls4 (base := base) T h0 h1 h2 h3 h4 h5 h6 h7 h8 h9 h10 h11 kk hk with ⟨ff, e1, hd, F⟩ | ⟨e1, ta, ff, e2, htu, hm, F⟩ | ⟨e1, e2, ff, e3, F⟩ | ⟨e1, e2, e3, hb⟩
    · have F_deed := Fdr
      refine ⟨_, (pss_cons (ps_set (i := 2) sc_operate.nd rfl (Or.inl rfl) (pe_mdget T.d_PIECES (pv 1) ⟨rfl, rfl, rfl, rfl⟩)) (pss_cons (ps_if (pt_cmp (pc_notN (pv 2))) (pss_one (ps_ret (pe_callD (def_draw T) (hr.mono (by decide)) rfl (pa_cons (pv 0) (pa_cons (pv 2) pa_nil))))) pss_nil) (pss_cons (ps_set (i := 3) sc_operate.nd rfl (Or.inl rfl) (pe_mdget dR (pv 1) ⟨rfl, rfl, rfl, rfl⟩)) (pss_cons (ps_if (pt_cmp (pc_notN (pv 3))) (pss_one (ps_ret (pe_callD (def_reckon T) (hr.mono (by decide)) rfl (pa_cons (pv 0) (pa_cons (pe_ix ix_tup (pv 3) pe_int (fun _ _ => rfl)) (pa_cons (pe_ix ix_tup (pv 3) pe_int (fun _ _ => rfl)) pa_nil)))))) pss_nil) (pss_cons (ps_set (i := 4) sc_operate.nd rfl (Or.inl rfl) (pe_callD (def_deed_of T) (hr.mono (by decide)) rfl (pa_cons (pv 1) pa_nil))) (pss_cons (ps_if (pt_cmp (pc_isN (pv 4))) (pss_one (ps_ret (pe_cst T.c_NO_OPERATOR))) pss_nil) (pss_one (ps_ret (pe_callV 4 F_deed (hr.mono (by decide)) (pa_cons (pv 0) pa_nil)))))))))), ?_⟩
      repeat (first | walk_at "r2" | (with_reducible refine rd_mdGet ?_) | (with_reducible refine rd_mdG ?_))
      rw [e1]
      repeat (first | walk_at "r2" | (with_reducible refine rd_mdGet ?_) | (with_reducible refine rd_mdG ?_))
      exact ⟨kk, ff, HB, H0, t, most, r, A1, dx, q, rfl, hd, F, R, X, out⟩
    · have F_deed := Fdr
      refine ⟨_, (pss_cons (ps_set (i := 2) sc_operate.nd rfl (Or.inl rfl) (pe_mdget T.d_PIECES (pv 1) ⟨rfl, rfl, rfl, rfl⟩)) (pss_cons (ps_if (pt_cmp (pc_notN (pv 2))) (pss_one (ps_ret (pe_callD (def_draw T) (hr.mono (by decide)) rfl (pa_cons (pv 0) (pa_cons (pv 2) pa_nil))))) pss_nil) (pss_cons (ps_set (i := 3) sc_operate.nd rfl (Or.inl rfl) (pe_mdget dR (pv 1) ⟨rfl, rfl, rfl, rfl⟩)) (pss_cons (ps_if (pt_cmp (pc_notN (pv 3))) (pss_one (ps_ret (pe_callD (def_reckon T) (hr.mono (by decide)) rfl (pa_cons (pv 0) (pa_cons (pe_ix ix_tup (pv 3) pe_int (fun _ _ => rfl)) (pa_cons (pe_ix ix_tup (pv 3) pe_int (fun _ _ => rfl)) pa_nil)))))) pss_nil) (pss_cons (ps_set (i := 4) sc_operate.nd rfl (Or.inl rfl) (pe_callD (def_deed_of T) (hr.mono (by decide)) rfl (pa_cons (pv 1) pa_nil))) (pss_cons (ps_if (pt_cmp (pc_isN (pv 4))) (pss_one (ps_ret (pe_cst T.c_NO_OPERATOR))) pss_nil) (pss_one (ps_ret (pe_callV 4 F_deed (hr.mono (by decide)) (pa_cons (pv 0) pa_nil)))))))))), ?_⟩
      repeat (first | walk_at "r2" | (with_reducible refine rd_mdGet ?_) | (with_reducible refine rd_mdG ?_))
      rw [e1]
      repeat (first | walk_at "r2" | (with_reducible refine rd_mdGet ?_) | (with_reducible refine rd_mdG ?_))
      rw [e2]
      repeat (first | walk_at "r2" | (with_reducible refine rd_mdGet ?_) | (with_reducible refine rd_mdG ?_))
      refine rd_ixT (htu _) (v := .int (madeOf kk : Nat)) rfl ?_
      repeat (first | walk_at "r2" | (with_reducible refine rd_mdGet ?_) | (with_reducible refine rd_mdG ?_))
      refine rd_ixT (htu _) (v := .ref ff) rfl ?_
      repeat (first | walk_at "r2" | (with_reducible refine rd_mdGet ?_) | (with_reducible refine rd_mdG ?_))
      exact ⟨kk, ff, HB, H0, t, most, r, A1, dx, q, rfl, hm, F, R, X, out⟩
    · have F_deed := F
      refine ⟨_, (pss_cons (ps_set (i := 2) sc_operate.nd rfl (Or.inl rfl) (pe_mdget T.d_PIECES (pv 1) ⟨rfl, rfl, rfl, rfl⟩)) (pss_cons (ps_if (pt_cmp (pc_notN (pv 2))) (pss_one (ps_ret (pe_callD (def_draw T) (hr.mono (by decide)) rfl (pa_cons (pv 0) (pa_cons (pv 2) pa_nil))))) pss_nil) (pss_cons (ps_set (i := 3) sc_operate.nd rfl (Or.inl rfl) (pe_mdget dR (pv 1) ⟨rfl, rfl, rfl, rfl⟩)) (pss_cons (ps_if (pt_cmp (pc_notN (pv 3))) (pss_one (ps_ret (pe_callD (def_reckon T) (hr.mono (by decide)) rfl (pa_cons (pv 0) (pa_cons (pe_ix ix_tup (pv 3) pe_int (fun _ _ => rfl)) (pa_cons (pe_ix ix_tup (pv 3) pe_int (fun _ _ => rfl)) pa_nil)))))) pss_nil) (pss_cons (ps_set (i := 4) sc_operate.nd rfl (Or.inl rfl) (pe_callD (def_deed_of T) (hr.mono (by decide)) rfl (pa_cons (pv 1) pa_nil))) (pss_cons (ps_if (pt_cmp (pc_isN (pv 4))) (pss_one (ps_ret (pe_cst T.c_NO_OPERATOR))) pss_nil) (pss_one (ps_ret (pe_callV 4 F_deed (hr.mono (by decide)) (pa_cons (pv 0) pa_nil)))))))))), ?_⟩
      repeat (first | walk_at "r2" | (with_reducible refine rd_mdGet ?_) | (with_reducible refine rd_mdG ?_))
      rw [e1]
      repeat (first | walk_at "r2" | (with_reducible refine rd_mdGet ?_) | (with_reducible refine rd_mdG ?_))
      rw [e2]
      repeat (first | walk_at "r2" | (with_reducible refine rd_mdGet ?_) | (with_reducible refine rd_mdG ?_))
      refine rd_deedOf e3 ?_
      repeat (first | walk_at "r2" | (with_reducible refine rd_mdGet ?_) | (with_reducible refine rd_mdG ?_))
      exact ⟨HB, H0, t, most, r, A1, dx, q, rfl, R, X, out⟩
    · have F_deed := Fdr
      refine ⟨_, (pss_cons (ps_set (i := 2) sc_operate.nd rfl (Or.inl rfl) (pe_mdget T.d_PIECES (pv 1) ⟨rfl, rfl, rfl, rfl⟩)) (pss_cons (ps_if (pt_cmp (pc_notN (pv 2))) (pss_one (ps_ret (pe_callD (def_draw T) (hr.mono (by decide)) rfl (pa_cons (pv 0) (pa_cons (pv 2) pa_nil))))) pss_nil) (pss_cons (ps_set (i := 3) sc_operate.nd rfl (Or.inl rfl) (pe_mdget dR (pv 1) ⟨rfl, rfl, rfl, rfl⟩)) (pss_cons (ps_if (pt_cmp (pc_notN (pv 3))) (pss_one (ps_ret (pe_callD (def_reckon T) (hr.mono (by decide)) rfl (pa_cons (pv 0) (pa_cons (pe_ix ix_tup (pv 3) pe_int (fun _ _ => rfl)) (pa_cons (pe_ix ix_tup (pv 3) pe_int (fun _ _ => rfl)) pa_nil)))))) pss_nil) (pss_cons (ps_set (i := 4) sc_operate.nd rfl (Or.inl rfl) (pe_callD (def_deed_of T) (hr.mono (by decide)) rfl (pa_cons (pv 1) pa_nil))) (pss_cons (ps_if (pt_cmp (pc_isN (pv 4))) (pss_one (ps_ret (pe_cst T.c_NO_OPERATOR))) pss_nil) (pss_one (ps_ret (pe_callV 4 F_deed (hr.mono (by decide)) (pa_cons (pv 0) pa_nil)))))))))), ?_⟩
      repeat (first | walk_at "r2" | (with_reducible refine rd_mdGet ?_) | (with_reducible refine rd_mdG ?_))
      rw [e1]
      repeat (first | walk_at "r2" | (with_reducible refine rd_mdGet ?_) | (with_reducible refine rd_mdG ?_))
      rw [e2]
      repeat (first | walk_at "r2" | (with_reducible refine rd_mdGet ?_) | (with_reducible refine rd_mdG ?_))
      refine rd_deedOf e3 ?_
      repeat (first | walk_at "r2" | (with_reducible refine rd_mdGet ?_) | (with_reducible refine rd_mdG ?_))
      rw [hb] at out
      exact out _ R.same
theorem def_push_number (T : Txt P w K mg CR CS) : Def P w K mg base "push_number" 3 ["run", "first"] (spPushNum K CR) := by
  refine T.f_push_number.mk sc_push_number (fun _ _ _ _ _ _ us hl => match us, hl with | [_, _], _ => rfl) (fun vs H Q E h => ?_) (fun f cdv A outer s H vs Q E hr h => ?_)
  · obtain ⟨HB, H0, t, most, r, A1, dx, q, fr, rest, b, rfl, R, hl48, hfr, hle, out⟩ := h; rfl
  · obtain ⟨HB, H0, t, most, r, A1, dx, q, fr, rest, b, rfl, R, hl48, hfr, hle, out⟩ := h
    have ri := R.ins
    have rs := R.st
    obtain ⟨fr', rest', hfr', hc, hpc⟩ := R.co
    rw [hfr] at hfr'
    injection hfr' with e1 e2
    subst e1 e2
    have hc1 := (R.b0.trans R.same).seq hc
    obtain ⟨hn0, hn4⟩ := nB0 b
    have hdl : (fr.code.drop fr.pc).length = fr.code.length - fr.pc := List.length_drop
    refine ⟨_, (pss_cons (ps_set (i := 2) sc_push_number.nd rfl (Or.inl rfl) (pe_op op_add (pe_fld (pv 0) rfl) (pe_callD (def_bytes_behind T) (hr.mono (by decide)) rfl (pa_cons (pv 1) pa_nil)))) (pss_cons (ps_if (pt_cmpR op_gt (pv 2) (pe_callB call_lenR rfl T.b_len bt_len (pa_cons (pe_fld (pv 0) rfl) pa_nil)) (nomark _)) (pss_one (ps_ret (pe_cst T.c_BYTES_END))) pss_nil) (pss_cons (ps_set (i := 3) sc_push_number.nd rfl (Or.inl rfl) (pe_callD (def_number_of T) (hr.mono (by decide)) rfl (pa_cons (pv 1) (pa_cons (pe_slice sl_list (pe_fld (pv 0) rfl) (po_some (pe_fld (pv 0) rfl)) (po_some (pv 2))) pa_nil)))) (pss_cons (ps_fld (pv 0) (pv 2) rfl) (pss_one (ps_ret (pe_callD (def_push T) (hr.mono (by decide)) rfl (pa_cons (pv 0) (pa_cons (pv 3) pa_nil))))))))), ?_⟩
    repeat walk_at "r2"
    refine iteD (fun h1 => ?_) (fun h1 => ?_)
    · rw [bytesV_len, hpc] at h1
      rw [if_pos (by omega)] at out
      repeat walk_at "r2"
      exact out _ R.same
    rw [bytesV_len, hpc] at h1
    rw [if_neg (by omega)] at out
    have ec : cutV (bytesV fr.code) (some A1.pc) (some (A1.pc + nBehind b)) = izs (((fr.code.drop fr.pc).take (nBehind b).toNat).map bz) := by
      unfold bytesV
      rw [hpc, cut_mid (by omega) (by omega) (by rw [List.length_map]; omega), List.map_take, List.map_drop]
      congr 2
      · omega
    repeat walk_at "r2"
    rw [ec]
    intro p hp
    have R1 := R.lay (o := .lst (izs (((fr.code.drop fr.pc).take (nBehind b).toNat).map bz))) hp
    repeat walk_at "r2"
    refine ⟨b, p, _, rfl, SqL.of upd_same, by rw [List.length_map, List.length_take]; omega, fun H2 s2 => ?_⟩
    have R2 := R1.grow s2
    have ri2 := R2.ins
    repeat walk_at "r2"
    have R3 : Rep K CR HB H0 t most (upd H2 r (.ins CR dx (flds { A1 with pc := A1.pc + nBehind b }))) r { A1 with pc := A1.pc + nBehind b } dx (Sa20.behind q (nBehind b).toNat) false :=
      R2.setA rfl rfl rfl rfl rfl rfl rfl (by rw [behind_of hfr, hfr]; rfl) ⟨_, _, behind_of hfr _, hc, by show A1.pc + nBehind b = ((fr.pc + (nBehind b).toNat : Nat) : Int); omega⟩ rfl rfl rfl R2.wi R2.wd R2.hi R2.op R2.x R2.y R2.bg R2.en
    exact ⟨HB, H0, t, most, r, _, dx, _, _, rfl, R3, hl48, out⟩
theorem def_step (T : Txt P w K mg CR CS) : Def P w K mg base "step" 7 ["run"] (spStep K CR) := by
  refine T.f_step.mk sc_step (fun _ _ _ _ _ _ us hl => match us, hl with | [_], _ => rfl) (fun vs H Q E h => ?_) (fun f cdv A outer s H vs Q E hr h => ?_)
  · obtain ⟨HB, H0, t, most, r, A1, dx, q, rfl, R, X, out⟩ := h; rfl
  · obtain ⟨HB, H0, t, most, r, A1, dx, q, rfl, R, X, out⟩ := h
    have ri := R.ins
    have rs := R.st
    obtain ⟨fr, rest, hfr, hc, hpc⟩ := R.co
    have hc1 := (R.b0.trans R.same).seq hc
    refine ⟨_, (pss_cons (ps_if (pt_cmpR op_ge (pe_fld (pv 0) rfl) (pe_callB call_lenR rfl T.b_len bt_len (pa_cons (pe_fld (pv 0) rfl) pa_nil)) (nomark _)) (pss_one (ps_ret (pe_cst T.c_BYTES_END))) pss_nil) (pss_cons (ps_set (i := 1) sc_step.nd rfl (Or.inl rfl) (pe_ix ix_list (pe_fld (pv 0) rfl) (pe_fld (pv 0) rfl) (fun _ _ => rfl))) (pss_cons (ps_fldaug (pv 0) pe_int in_add) (pss_cons (ps_if (pt_val (pe_callD (def_begins_number T) (hr.mono (by decide)) rfl (pa_cons (pv 1) pa_nil))) (pss_one (ps_ret (pe_callD (def_push_number T) (hr.mono (by decide)) rfl (pa_cons (pv 0) (pa_cons (pv 1) pa_nil))))) pss_nil) (pss_cons (ps_if (pt_cmpR op_eq (pv 1) (pe_cst T.c_TWO_BYTES) (nomark _)) (pss_cons (ps_if (pt_cmpR op_ge (pe_fld (pv 0) rfl) (pe_callB call_lenR rfl T.b_len bt_len (pa_cons (pe_fld (pv 0) rfl) pa_nil)) (nomark _)) (pss_one (ps_ret (pe_cst T.c_BYTES_END))) pss_nil) (pss_cons (ps_set (i := 1) sc_step.nd rfl (Or.inl rfl) (pe_op op_add (pe_cst T.c_TWO_BYTES_FROM) (pe_ix ix_list (pe_fld (pv 0) rfl) (pe_fld (pv 0) rfl) (fun _ _ => rfl)))) (pss_one (ps_fldaug (pv 0) pe_int in_add)))) pss_nil) (pss_cons (ps_fldaug (pv 0) pe_int in_add) (pss_cons (ps_if (pt_cmpR op_gt (pe_fld (pv 0) rfl) (pe_cst T.c_MOST_OPERATORS) (nomark _)) (pss_one (ps_ret (pe_cst T.c_TOO_MANY_OPERATORS))) pss_nil) (pss_one (ps_ret (pe_callD (def_operate T) (hr.mono (by decide)) rfl (pa_cons (pv 0) (pa_cons (pv 1) pa_nil)))))))))))), ?_⟩
    repeat walk_at "r2"
    refine iteD (fun h1 => ?_) (fun h1 => ?_)
    · rw [bytesV_len, hpc] at h1
      rw [step_end hfr (by omega)] at out
      repeat walk_at "r2"
      exact out _ R.same
    rw [bytesV_len, hpc] at h1
    have hlt : fr.pc < fr.code.length := by omega
    repeat walk_at "r2"
    refine rd_ixL hc1 (v := .int (bz fr.code[fr.pc])) (by rw [hpc]; exact bytes_at hlt) ?_
    repeat walk_at "r2"
    have R1 : Rep K CR HB H0 t most (upd H r (.ins CR dx (flds { A1 with pc := A1.pc + 1 }))) r { A1 with pc := A1.pc + 1 } dx (Sa20.behind q 1) false :=
      R.setA rfl rfl rfl rfl rfl rfl rfl (by rw [behind_of hfr, hfr]; rfl) ⟨_, _, behind_of hfr _, hc, by show A1.pc + 1 = ((fr.pc + 1 : Nat) : Int); omega⟩ rfl rfl rfl R.wi R.wd R.hi R.op R.x R.y R.bg R.en
    have ri1 := R1.ins
    have hc2 := (R1.b0.trans R1.same).seq hc
    have hb := bz_range fr.code[fr.pc]
    repeat walk_at "r2"
    refine iteD (fun h2 => ?_) (fun h2 => ?_)
    · repeat walk_at "r2"
      rw [step_num hfr hlt h2] at out
      refine ⟨HB, H0, t, most, r, _, dx, Sa20.behind q 1, { fr with pc := fr.pc + 1 }, rest, _, rfl, R1, X.ok.st, behind_of hfr 1, by show fr.pc + 1 ≤ fr.code.length; omega, ?_⟩
      rw [behind_two hfr]
      exact out
    repeat walk_at "r2"
    refine iteD (fun h3 => ?_) (fun h3 => ?_)
    · obtain ⟨k1, k2⟩ := step_12 (t := t) (room := most.toNat) hfr hlt h3
      repeat walk_at "r2"
      refine iteD (fun h4 => ?_) (fun h4 => ?_)
      · rw [bytesV_len] at h4
        have h4 : (fr.code.length : Int) ≤ A1.pc + 1 := h4
        rw [k1 (by omega)] at out
        repeat walk_at "r2"
        exact out _ R1.same
      rw [bytesV_len] at h4
      have h4 : ¬ (fr.code.length : Int) ≤ A1.pc + 1 := h4
      have hlt2 : fr.pc + 1 < fr.code.length := by omega
      rw [k2 hlt2] at out
      repeat walk_at "r2"
      refine rd_ixL hc2 (v := .int (bz fr.code[fr.pc + 1])) (by rw [show A1.pc + 1 = ((fr.pc + 1 : Nat) : Int) by omega]; exact bytes_at hlt2) ?_
      repeat walk_at "r2"
      have R2 : Rep K CR HB H0 t most (upd (upd H r (.ins CR dx (flds { A1 with pc := A1.pc + 1 }))) r (.ins CR dx (flds { A1 with pc := A1.pc + 1 + 1 }))) r { A1 with pc := A1.pc + 1 + 1 } dx (Sa20.behind q 2) false :=
        R1.setA rfl rfl rfl rfl rfl rfl rfl (by rw [behind_of hfr, behind_of hfr]; rfl) ⟨_, _, behind_of hfr _, hc, by show A1.pc + 1 + 1 = ((fr.pc + 2 : Nat) : Int); omega⟩ rfl rfl rfl R1.wi R1.wd R1.hi R1.op R1.x R1.y R1.bg R1.en
      have ri2 := R2.ins
      repeat walk_at "r2"
      have R3 : Rep K CR HB H0 t most (upd (upd (upd H r (.ins CR dx (flds { A1 with pc := A1.pc + 1 }))) r (.ins CR dx (flds { A1 with pc := A1.pc + 1 + 1 }))) r (.ins CR dx (flds { A1 with pc := A1.pc + 1 + 1, operators := A1.operators + 1 }))) r { A1 with pc := A1.pc + 1 + 1, operators := A1.operators + 1 } dx { Sa20.behind q 2 with count := q.count + 1 } false :=
        R2.setA rfl rfl rfl rfl rfl rfl rfl rfl R2.co rfl rfl rfl R2.wi R2.wd R2.hi (by show A1.operators + 1 = ((q.count + 1 : Nat) : Int); rw [R.op]; rfl) R2.x R2.y R2.bg R2.en
      have ri3 := R3.ins
      repeat walk_at "r2"
      have hop : A1.operators = (q.count : Int) := R.op
      refine iteD (fun h5 => ?_) (fun h5 => ?_)
      · have h5 : (100000 : Int) < A1.operators + 1 := h5
        rw [if_pos (by omega)] at out
        repeat walk_at "r2"
        exact out _ R3.same
      have h5 : ¬ (100000 : Int) < A1.operators + 1 := h5
      rw [if_neg (by omega)] at out
      repeat walk_at "r2"
      have hw := bz_range fr.code[fr.pc + 1]
      refine ⟨256 + fr.code[fr.pc + 1].toNat, by unfold bz at hw; omega, HB, H0, t, most, r, _, dx, _, by rw [opInt_hi]; rfl, R3, ⟨?_, X.m0, X.m1, ?_, X.so, X.sc⟩, out⟩
      · have k3 := behind_ok (n := 2) X.ok
        exact ⟨X.ok.st, X.ok.ft, X.ok.cl, X.ok.cf, X.ok.xf, X.ok.yf, k3.1.f1, k3.1.f2, X.ok.ou, by show q.count + 1 ≤ 100000; omega⟩
      · intro f' rest' hf'
        have hf' : (Sa20.behind q 2).frames = f' :: rest' := hf'
        rw [behind_of hfr] at hf'
        injection hf' with e1 e2
        subst e1
        show fr.pc + 2 ≤ fr.code.length
        omega
    repeat walk_at "r2"
    rw [step_op hfr hlt h2 h3] at out
    have R3 : Rep K CR HB H0 t most (upd (upd H r (.ins CR dx (flds { A1 with pc := A1.pc + 1 }))) r (.ins CR dx (flds { A1 with pc := A1.pc + 1, operators := A1.operators + 1 }))) r { A1 with pc := A1.pc + 1, operators := A1.operators + 1 } dx { Sa20.behind q 1 with count := q.count + 1 } false :=
      R1.setA rfl rfl rfl rfl rfl rfl rfl rfl R1.co rfl rfl rfl R1.wi R1.wd R1.hi (by show A1.operators + 1 = ((q.count + 1 : Nat) : Int); rw [R.op]; rfl) R1.x R1.y R1.bg R1.en
    have ri3 := R3.ins
    repeat walk_at "r2"
    have hop : A1.operators = (q.count : Int) := R.op
    refine iteD (fun h5 => ?_) (fun h5 => ?_)
    · have h5 : (100000 : Int) < A1.operators + 1 := h5
      rw [if_pos (by omega)] at out
      repeat walk_at "r2"
      exact out _ R3.same
    have h5 : ¬ (100000 : Int) < A1.operators + 1 := h5
    rw [if_neg (by omega)] at out
    repeat walk_at "r2"
    refine ⟨fr.code[fr.pc].toNat, by unfold bz at hb; omega, HB, H0, t, most, r, _, dx, _, by rw [opInt_lo (by unfold bz at hb; omega)]; rfl, R3, ⟨?_, X.m0, X.m1, ?_, X.so, X.sc⟩, out⟩
    · have k3 := behind_ok (n := 1) X.ok
      exact ⟨X.ok.st, X.ok.ft, X.ok.cl, X.ok.cf, X.ok.xf, X.ok.yf, k3.1.f1, k3.1.f2, X.ok.ou, by show q.count + 1 ≤ 100000; omega⟩
    · intro f' rest' hf'
      have hf' : (Sa20.behind q 1).frames = f' :: rest' := hf'
      rw [behind_of hfr] at hf'
      injection hf' with e1 e2
      subst e1
      show fr.pc + 1 ≤ fr.code.length
      omega
structure InitOk (H H' : Hp) (CR x dx c ow co : Addr) (most : Int) (A : Flds) : Prop where
  ins : H' x = some (.ins CR dx (flds A))
  e1 : A.code = c
  e2 : A.pc = 0
  e3 : A.own = ow
  e4 : A.common = co
  e5 : A.most = most
  e6 : A.width = -2147483648
  e7 : A.width_due = true
  e8 : A.hints = 0
  e9 : A.operators = 0
  e10 : A.x = 0
  e11 : A.y = 0
  e12 : A.begun = false
  e13 : A.ended = false
  l1 : H' A.callers = some (.lst [])
  l2 : H' A.stack = some (.lst (izs []))
  l3 : H' A.cells = some (.lst (izs (List.replicate 32 0)))
  l4 : H' A.drawn = some (.lst (izs []))
  n1 : H A.callers = none
  n2 : H A.stack = none
  n3 : H A.cells = none
  n4 : H A.drawn = none
  d1 : A.stack ≠ A.cells
  d2 : A.stack ≠ A.drawn
  d3 : A.stack ≠ A.callers
  d4 : A.cells ≠ A.drawn
  d5 : A.cells ≠ A.callers
  d6 : A.drawn ≠ A.callers
  kp : ∀ b o, H b = some o → b ≠ x → H' b = some o
def spInitRun (CR : Addr) : Sp := fun vs H Q _ => ∃ x dx c most ow co, vs = [.ref x, .ref c, .int most, .ref ow, .ref co] ∧ H x = some (.ins CR dx []) ∧ ∀ H' A, InitOk H H' CR x dx c ow co most A → Q .non H'
theorem fsN {K : PySem.W.Frag} {H : Hp} {a C dx : Addr} {f : Str} {y : V} {fs fs' : List (Str × V)} {N : Hp → Prop} (cl : Cls K C) (na : NoAttr K C f) (h : H a = some (.ins C dx fs)) (e : putF f y fs = fs') (l : fs.length < 1000) (q : N (upd H a (.ins C dx fs'))) : FlS K f y (.ref a) H N :=
  ⟨a, C, dx, fs, rfl, h, cl, na, l, by rw [e]; exact q⟩
theorem rd_rep {H : Hp} {l : Addr} {k : Int} {xs : List V} {Q : VK} (e : H l = some (.lst xs)) (h1 : -(2 ^ 63) ≤ k) (h2 : k < 2 ^ 63) (h3 : xs.length * k.toNat ≤ sizeLine) (q : ∀ p, H p = none → Q (.ref p) (upd H p (.lst (List.replicate k.toNat xs).flatten))) : rRep (.ref l) (.int k) H Q :=
  ⟨l, k, xs, rfl, rfl, e, h1, h2, h3, q⟩
structure Ist (H : Hp) (C x dx : Addr) (Hc : Hp) (fs : List (Str × V)) (ls : List (Addr × HO)) : Prop where
  hx : Hc x = some (.ins C dx fs)
  kp : ∀ b o, H b = some o → b ≠ x → Hc b = some o
  ls_ : ∀ e ∈ ls, Hc e.1 = some e.2 ∧ e.1 ≠ x ∧ H e.1 = none
  nd : (ls.map (·.1)).Nodup
theorem Ist.new {H : Hp} {C x dx : Addr} {Hc : Hp} {fs : List (Str × V)} {ls : List (Addr × HO)} (I : Ist H C x dx Hc fs ls) {p : Addr} {o : HO} (hp : Hc p = none) : Ist H C x dx (upd Hc p o) fs ((p, o) :: ls) := by
  have n1 : p ≠ x := fun e => by rw [e, I.hx] at hp; cases hp
  refine ⟨keepN I.hx hp, fun b u h n => keepN (I.kp b u h n) hp, fun e he => ?_, ?_⟩
  · rcases List.mem_cons.mp he with rfl | he
    · refine ⟨upd_same, n1, ?_⟩
      cases e : H p with
      | none => rfl
      | some u => rw [I.kp p u e n1] at hp; cases hp
    · obtain ⟨h1, h2, h3⟩ := I.ls_ e he
      exact ⟨keepN h1 hp, h2, h3⟩
  · rw [List.map_cons, List.nodup_cons]
    refine ⟨fun q => ?_, I.nd⟩
    obtain ⟨e, he, e2⟩ := List.mem_map.mp q
    have e2 : e.1 = p := e2
    have := (I.ls_ e he).1
    rw [e2, hp] at this
    cases this
theorem fsN2 {K : PySem.W.Frag} {H : Hp} {C x dx : Addr} {Hc : Hp} {fs fs' : List (Str × V)} {ls : List (Addr × HO)} {f : Str} {y : V} {N : Hp → Prop} (cl : Cls K C) (na : NoAttr K C f) (I : Ist H C x dx Hc fs ls) (e : putF f y fs = fs') (l : fs.length < 1000)
    (q : Ist H C x dx (upd Hc x (.ins C dx fs')) fs' ls → N (upd Hc x (.ins C dx fs'))) : FlS K f y (.ref x) Hc N := by
  refine fsN cl na I.hx e l (q ⟨upd_same, fun b u h n => (upd_ne n).trans (I.kp b u h n), fun e he => ?_, I.nd⟩)
  obtain ⟨h1, h2, h3⟩ := I.ls_ e he
  exact ⟨(upd_ne h2).trans h1, h2, h3⟩
theorem mk_Run (T : Txt P w K mg CR CS) : MkD P w K mg base "Run" 1 ["self", "code", "most", "own", "common"] CR (spInitRun CR) := by
  obtain ⟨fi, fd, M, F⟩ := T.mkR
  refine ⟨fi, fd, T.mgR, M, F.binds (fun _ _ _ _ _ _ us hl => match us, hl with | [_, _, _, _, _], _ => rfl), F.ok sc_Run___init__ (fun vs H Q E h => ?_) (fun cdv A outer s H vs Q E hr h => ?_)⟩
  · obtain ⟨x, dx, c, most, ow, co, rfl, hx, k⟩ := h; rfl
  · obtain ⟨x, dx, c, most, ow, co, rfl, hx, k⟩ := h
    refine ⟨_, (pss_cons (ps_fld (pv 0) (pv 1) rfl) (pss_cons (ps_fld (pv 0) pe_int rfl) (pss_cons (ps_fld (pv 0) (pe_lst pa_nil) rfl) (pss_cons (ps_fld (pv 0) (pv 3) rfl) (pss_cons (ps_fld (pv 0) (pv 4) rfl) (pss_cons (ps_fld (pv 0) (pv 2) rfl) (pss_cons (ps_fld (pv 0) (pe_lst pa_nil) rfl) (pss_cons (ps_fld (pv 0) (pe_op op_rep (pe_lst (pa_cons pe_int pa_nil)) (pe_cst T.c_HOW_MANY_CELLS)) rfl) (pss_cons (ps_fld (pv 0) (pe_cst T.c_NO_WIDTH) rfl) (pss_cons (ps_fld (pv 0) pe_bl rfl) (pss_cons (ps_fld (pv 0) pe_int rfl) (pss_cons (ps_fld (pv 0) pe_int rfl) (pss_cons (ps_fld (pv 0) pe_int rfl) (pss_cons (ps_fld (pv 0) pe_int rfl) (pss_cons (ps_fld (pv 0) pe_bl rfl) (pss_cons (ps_fld (pv 0) (pe_lst pa_nil) rfl) (pss_one (ps_fld (pv 0) pe_bl rfl)))))))))))))))))), ?_⟩
    have I : Ist H CR x dx H [] [] := ⟨hx, fun _ _ h _ => h, (fun _ h => nomatch h), List.nodup_nil⟩
    repeat walk_at "r1"
    refine fsN2 T.clR T.nR_code I (fs' := [("code", .ref c)]) (by rfl) (by simp) fun I2 => ?_
    replace I := I2
    clear I2
    repeat walk_at "r1"
    refine fsN2 T.clR T.nR_at I (fs' := [("code", .ref c), ("at", .int 0)]) (by rfl) (by simp) fun I2 => ?_
    replace I := I2
    clear I2
    repeat walk_at "r1"
    refine ⟨Nat.zero_le _, fun p1 hp1 => ?_⟩
    replace I := I.new (o := .lst []) hp1
    repeat walk_at "r1"
    refine fsN2 T.clR T.nR_callers I (fs' := [("code", .ref c), ("at", .int 0), ("callers", .ref p1)]) (by rfl) (by simp) fun I2 => ?_
    replace I := I2
    clear I2
    repeat walk_at "r1"
    refine fsN2 T.clR T.nR_own I (fs' := [("code", .ref c), ("at", .int 0), ("callers", .ref p1), ("own", .ref ow)]) (by rfl) (by simp) fun I2 => ?_
    replace I := I2
    clear I2
    repeat walk_at "r1"
    refine fsN2 T.clR T.nR_common I (fs' := [("code", .ref c), ("at", .int 0), ("callers", .ref p1), ("own", .ref ow), ("common", .ref co)]) (by rfl) (by simp) fun I2 => ?_
    replace I := I2
    clear I2
    repeat walk_at "r1"
    refine fsN2 T.clR T.nR_most I (fs' := [("code", .ref c), ("at", .int 0), ("callers", .ref p1), ("own", .ref ow), ("common", .ref co), ("most", .int most)]) (by rfl) (by simp) fun I2 => ?_
    replace I := I2
    clear I2
    repeat walk_at "r1"
    refine ⟨Nat.zero_le _, fun p2 hp2 => ?_⟩
    replace I := I.new (o := .lst []) hp2
    repeat walk_at "r1"
    refine fsN2 T.clR T.nR_stack I (fs' := [("code", .ref c), ("at", .int 0), ("callers", .ref p1), ("own", .ref ow), ("common", .ref co), ("most", .int most), ("stack", .ref p2)]) (by rfl) (by simp) fun I2 => ?_
    replace I := I2
    clear I2
    repeat walk_at "r1"
    refine ⟨by show 1 ≤ sizeLine; decide, fun p3 hp3 => ?_⟩
    replace I := I.new (o := .lst [.int 0]) hp3
    repeat walk_at "r1"
    refine rd_rep upd_same (by decide) (by decide) (by decide) ?_
    rw [show (List.replicate (32 : Int).toNat [V.int 0]).flatten = izs (List.replicate 32 0) from rfl]
    intro p4 hp4
    replace I := I.new (o := .lst (izs (List.replicate 32 0))) hp4
    repeat walk_at "r1"
    refine fsN2 T.clR T.nR_cells I (fs' := [("code", .ref c), ("at", .int 0), ("callers", .ref p1), ("own", .ref ow), ("common", .ref co), ("most", .int most), ("stack", .ref p2), ("cells", .ref p4)]) (by rfl) (by simp) fun I2 => ?_
    replace I := I2
    clear I2
    repeat walk_at "r1"
    refine fsN2 T.clR T.nR_width I (fs' := [("code", .ref c), ("at", .int 0), ("callers", .ref p1), ("own", .ref ow), ("common", .ref co), ("most", .int most), ("stack", .ref p2), ("cells", .ref p4), ("width", .int (-2147483648))]) (by rfl) (by simp) fun I2 => ?_
    replace I := I2
    clear I2
    repeat walk_at "r1"
    refine fsN2 T.clR T.nR_width_due I (fs' := [("code", .ref c), ("at", .int 0), ("callers", .ref p1), ("own", .ref ow), ("common", .ref co), ("most", .int most), ("stack", .ref p2), ("cells", .ref p4), ("width", .int (-2147483648)), ("width_due", .bl true)]) (by rfl) (by simp) fun I2 => ?_
    replace I := I2
    clear I2
    repeat walk_at "r1"
    refine fsN2 T.clR T.nR_hints I (fs' := [("code", .ref c), ("at", .int 0), ("callers", .ref p1), ("own", .ref ow), ("common", .ref co), ("most", .int most), ("stack", .ref p2), ("cells", .ref p4), ("width", .int (-2147483648)), ("width_due", .bl true), ("hints", .int 0)]) (by rfl) (by simp) fun I2 => ?_
    replace I := I2
    clear I2
    repeat walk_at "r1"
    refine fsN2 T.clR T.nR_operators I (fs' := [("code", .ref c), ("at", .int 0), ("callers", .ref p1), ("own", .ref ow), ("common", .ref co), ("most", .int most), ("stack", .ref p2), ("cells", .ref p4), ("width", .int (-2147483648)), ("width_due", .bl true), ("hints", .int 0), ("operators", .int 0)]) (by rfl) (by simp) fun I2 => ?_
    replace I := I2
    clear I2
    repeat walk_at "r1"
    refine fsN2 T.clR T.nR_x I (fs' := [("code", .ref c), ("at", .int 0), ("callers", .ref p1), ("own", .ref ow), ("common", .ref co), ("most", .int most), ("stack", .ref p2), ("cells", .ref p4), ("width", .int (-2147483648)), ("width_due", .bl true), ("hints", .int 0), ("operators", .int 0), ("x", .int 0)]) (by rfl) (by simp) fun I2 => ?_
    replace I := I2
    clear I2
    repeat walk_at "r1"
    refine fsN2 T.clR T.nR_y I (fs' := [("code", .ref c), ("at", .int 0), ("callers", .ref p1), ("own", .ref ow), ("common", .ref co), ("most", .int most), ("stack", .ref p2), ("cells", .ref p4), ("width", .int (-2147483648)), ("width_due", .bl true), ("hints", .int 0), ("operators", .int 0), ("x", .int 0), ("y", .int 0)]) (by rfl) (by simp) fun I2 => ?_
    replace I := I2
    clear I2
    repeat walk_at "r1"
    refine fsN2 T.clR T.nR_begun I (fs' := [("code", .ref c), ("at", .int 0), ("callers", .ref p1), ("own", .ref ow), ("common", .ref co), ("most", .int most), ("stack", .ref p2), ("cells", .ref p4), ("width", .int (-2147483648)), ("width_due", .bl true), ("hints", .int 0), ("operators", .int 0), ("x", .int 0), ("y", .int 0), ("begun", .bl false)]) (by rfl) (by simp) fun I2 => ?_
    replace I := I2
    clear I2
    repeat walk_at "r1"
    refine ⟨Nat.zero_le _, fun p5 hp5 => ?_⟩
    replace I := I.new (o := .lst []) hp5
    repeat walk_at "r1"
    refine fsN2 T.clR T.nR_drawn I (fs' := [("code", .ref c), ("at", .int 0), ("callers", .ref p1), ("own", .ref ow), ("common", .ref co), ("most", .int most), ("stack", .ref p2), ("cells", .ref p4), ("width", .int (-2147483648)), ("width_due", .bl true), ("hints", .int 0), ("operators", .int 0), ("x", .int 0), ("y", .int 0), ("begun", .bl false), ("drawn", .ref p5)]) (by rfl) (by simp) fun I2 => ?_
    replace I := I2
    clear I2
    repeat walk_at "r1"
    refine fsN2 T.clR T.nR_ended I (fs' := [("code", .ref c), ("at", .int 0), ("callers", .ref p1), ("own", .ref ow), ("common", .ref co), ("most", .int most), ("stack", .ref p2), ("cells", .ref p4), ("width", .int (-2147483648)), ("width_due", .bl true), ("hints", .int 0), ("operators", .int 0), ("x", .int 0), ("y", .int 0), ("begun", .bl false), ("drawn", .ref p5), ("ended", .bl false)]) (by rfl) (by simp) fun I2 => ?_
    replace I := I2
    clear I2
    have nd := I.nd
    simp only [List.map_cons, List.map_nil, List.nodup_cons, List.mem_cons, List.not_mem_nil, or_false, not_or, not_false_eq_true, List.nodup_nil, and_true] at nd
    obtain ⟨⟨a54, a53, a52, a51⟩, ⟨a43, a42, a41⟩, ⟨a32, a31⟩, a21⟩ := nd
    obtain ⟨b1, _, c1⟩ := I.ls_ (p1, .lst []) (by simp)
    obtain ⟨b2, _, c2⟩ := I.ls_ (p2, .lst []) (by simp)
    obtain ⟨b4, _, c4⟩ := I.ls_ (p4, .lst (izs (List.replicate 32 0))) (by simp)
    obtain ⟨b5, _, c5⟩ := I.ls_ (p5, .lst []) (by simp)
    refine k _ { code := c, pc := 0, callers := p1, own := ow, common := co, most := most, stack := p2, cells := p4, width := -2147483648, width_due := true, hints := 0, operators := 0, x := 0, y := 0, begun := false, drawn := p5, ended := false } ?_
    exact ⟨I.hx, rfl, rfl, rfl, rfl, rfl, rfl, rfl, rfl, rfl, rfl, rfl, rfl, rfl, b1, b2, b4, b5, c1, c2, c4, c5, Ne.symm a42, Ne.symm a52, a21, Ne.symm a54, a41, a51, I.kp⟩
def spInitSub (CS : Addr) : Sp := fun vs H Q _ => ∃ x dx, vs = [.ref x] ∧ H x = some (.ins CS dx []) ∧ ∀ H' a b, H' x = some (.ins CS dx (flS a b)) → H' a = some (.lst []) → H' b = some (.lst []) → H a = none → H b = none → (∀ c o, H c = some o → c ≠ x → H' c = some o) → Q .non H'
theorem mk_Subroutines (T : Txt P w K mg CR CS) : MkD P w K mg base "Subroutines" 1 ["self"] CS (spInitSub CS) := by
  obtain ⟨fi, fd, M, F⟩ := T.mkS
  refine ⟨fi, fd, T.mgS, M, F.binds (fun _ _ _ _ _ _ us hl => match us, hl with | [_], _ => rfl), F.ok sc_Subroutines___init__ (fun vs H Q E h => ?_) (fun cdv A outer s H vs Q E hr h => ?_)⟩
  · obtain ⟨x, dx, rfl, hx, k⟩ := h; rfl
  · obtain ⟨x, dx, rfl, hx, k⟩ := h
    refine ⟨_, (pss_cons (ps_fld (pv 0) (pe_lst pa_nil) rfl) (pss_one (ps_fld (pv 0) (pe_lst pa_nil) rfl))), ?_⟩
    repeat walk_at "r1"
    refine ⟨Nat.zero_le _, fun p1 hp1 => ?_⟩
    repeat walk_at "r1"
    refine fsN T.clS T.nS_own (keepN hx hp1) (fs' := [("own", .ref p1)]) (by rfl) (by simp) ?_
    repeat walk_at "r1"
    refine ⟨Nat.zero_le _, fun p2 hp2 => ?_⟩
    repeat walk_at "r1"
    have n1 : p1 ≠ x := fun e => by rw [e, hx] at hp1; cases hp1
    have n2 : p2 ≠ x := fun e => by rw [e, upd_same] at hp2; cases hp2
    have n3 : p1 ≠ p2 := fun e => by rw [← e, upd_ne n1, upd_same] at hp2; cases hp2
    refine fsN T.clS T.nS_common (keepN upd_same hp2) (fs' := [("own", .ref p1), ("common", .ref p2)]) (by rfl) (by simp) ?_
    refine k _ p1 p2 upd_same ?_ ?_ hp1 ?_ ?_
    · rw [upd_ne n1]; exact keepN ((upd_ne n1).trans upd_same) hp2
    · rw [upd_ne n2]; exact upd_same
    · rw [upd_ne n2] at hp2
      exact (Same.new hp1).free hp2
    · intro c o h nc
      rw [upd_ne nc]
      exact keepN ((upd_ne nc).trans (keepN h hp1)) hp2
def MkS (C : Addr) (sp : Sp) (vs : List V) (H1 : Hp) (Q : VK) : Prop := ∀ x dx, H1 x = none → H1 dx = none → dx ≠ x → sp (.ref x :: vs) (upd (upd H1 dx (.own x)) x (.ins C dx [])) (fun v H2 => v = .non ∧ Q (.ref x) H2) E0
theorem rd_mkD {C : Addr} {sp : Sp} {tr : TA} {σ : St} {H : Hp} {Q : VK} (h : tr σ H fun vs H1 => MkS C sp vs H1 Q) : tMkD C sp tr σ H Q := h
def spRun (K : PySem.W.Frag) (CS : Addr) : Sp := fun vs H Q _ => ∃ ca most sa ds ow co, ∃ (t : Sa20.Subrs) (code : Sa20.Bytes), vs = [.ref ca, .int most, .ref sa] ∧ H ca = some (.lst (bytesV code)) ∧ code.length ≤ 65536 ∧ H sa = some (.ins CS ds (flS ow co)) ∧
  SubsAt K H ow t.own ∧ SubsAt K H co t.common ∧ t.own.length ≤ 2048 ∧ t.common.length ≤ 2048 ∧
  ∀ H' p, H p = none → Same H H' → H' p = some (.lst (izs (if 0 ≤ most ∧ most ≤ 1048576 then runAns t most.toNat code else [-1]))) → Q (.ref p) H'
theorem mk_free {H : Hp} {x dx C a : Addr} (h : (upd (upd H dx (.own x)) x (.ins C dx [])) a = none) : H a = none := by
  have n1 : a ≠ x := fun e => by rw [e, upd_same] at h; cases h
  rw [upd_ne n1] at h
  have n2 : a ≠ dx := fun e => by rw [e, upd_same] at h; cases h
  rw [upd_ne n2] at h
  exact h
theorem rep_first {H H1 : Hp} {x dx ca ow co : Addr} {most : Int} {A : Flds} {t : Sa20.Subrs} {code : Sa20.Bytes} (hx : H x = none) (hdx : H dx = none) (I : InitOk (upd (upd H dx (.own x)) x (.ins CR dx [])) H1 CR x dx ca ow co most A)
    (hca : H ca = some (.lst (bytesV code))) (h1 : SubsAt K H ow t.own) (h2 : SubsAt K H co t.common) : Rep K CR H H t most H1 x A dx (Sa20.first code) false := by
  refine ⟨Same.refl _, fun b o h => I.kp b o ?_ (ne_of_none h hx), I.ins, hx, mk_free I.n2, mk_free I.n3, mk_free I.n4, mk_free I.n1, I.l2, I.l3, I.l4, ⟨[], I.l1, .nil⟩, ⟨⟨code, 0⟩, [], rfl, by rw [I.e1]; exact SqL.of hca, by rw [I.e2]; rfl⟩,
    by rw [I.e3]; exact h1, by rw [I.e4]; exact h2, I.e5, by rw [I.e6]; rfl, by rw [I.e7]; rfl, by rw [I.e8]; rfl, by rw [I.e9]; rfl, by rw [I.e10]; rfl, by rw [I.e11]; rfl, by rw [I.e12]; rfl, I.e13, I.d1, I.d2, I.d3, I.d4, I.d5, I.d6⟩
  rw [upd_ne (ne_of_none h hx), upd_ne (ne_of_none h hdx)]; exact h
theorem def_run_program (T : Txt P w K mg CR CS) : Def P w K mg base "run_program" 8 ["code", "most", "subroutines"] (spRun K CS) := by
  refine T.f_run_program.mk sc_run_program (fun _ _ _ _ _ _ us hl => match us, hl with | [_, _, _], _ => rfl) (fun vs H Q E h => ?_) (fun f cdv A outer s H vs Q E hr h => ?_)
  · obtain ⟨ca, most, sa, ds, ow, co, t, code, rfl, hca, hcl, hsa, hs1, hs2, hn1, hn2, k⟩ := h; rfl
  · obtain ⟨ca, most, sa, ds, ow, co, t, code, rfl, hca, hcl, hsa, hs1, hs2, hn1, hn2, k⟩ := h
    refine ⟨_, (pss_cons (ps_if (PW.pt (pw_or (pt_cmpR op_gt (pe_callB call_lenR rfl T.b_len bt_len (pa_cons (pv 0) pa_nil)) (pe_cst T.c_MOST_BYTES) (nomark _)) (pw_or (pt_cmpR op_lt (pv 1) pe_int (nomark _)) (pw_or1 (pt_cmpR op_gt (pv 1) (pe_cst T.c_MOST_DRAWN) (nomark _)))))) (pss_one (ps_ret (pe_lst (pa_cons (pe_cst T.c_WRONG_CALL) pa_nil)))) pss_nil) (pss_cons (ps_set (i := 3) sc_run_program.nd rfl (Or.inl rfl) (pe_mkD (mk_Run T) (hr.mono (by decide)) rfl (pa_cons (pv 0) (pa_cons (pv 1) (pa_cons (pe_fld (pv 2) rfl) (pa_cons (pe_fld (pv 2) rfl) pa_nil)))))) (pss_cons (ps_set (i := 4) sc_run_program.nd rfl (Or.inl rfl) (pe_cst T.c_FINE)) (pss_cons (ps_while PassesOwn.never (PW.pt (pw_and (pt_cmpR op_eq (pv 4) (pe_cst T.c_FINE) (nomark _)) (pw_and1 (pt_not (pt_val (pe_fld (pv 3) rfl)))))) (pss_one (ps_set (i := 4) sc_run_program.nd rfl (Or.inl rfl) (pe_callD (def_step T) (hr.mono (by decide)) rfl (pa_cons (pv 3) pa_nil))))) (pss_cons (ps_if (pt_cmpR op_ne (pv 4) (pe_cst T.c_FINE) (nomark _)) (pss_one (ps_ret (pe_lst (pa_cons (pv 4) pa_nil)))) pss_nil) (pss_one (ps_ret (pe_op op_cat (pe_lst (pa_cons (pe_callB call_lenR rfl T.b_len bt_len (pa_cons (pe_fld (pv 3) rfl) pa_nil)) (pa_cons (pe_fld (pv 3) rfl) pa_nil))) (pe_fld (pv 3) rfl))))))))), ?_⟩
    repeat walk_at "r2"
    have hz : (sizeLine : Nat) = 16777216 := sizeLine_eq
    have bad : ¬ (0 ≤ most ∧ most ≤ 1048576) → ∀ p, H p = none → Q (.ref p) (upd H p (.lst [.int (-1)])) := fun hb p hp => by
      rw [if_neg hb] at k
      exact k _ p hp (Same.new hp) upd_same
    refine iteD (fun h1 => ?_) (fun h1 => ?_)
    · rw [bytesV_len] at h1
      exact absurd h1 (by omega)
    repeat walk_at "r2"
    refine iteD (fun h2 => ?_) (fun h2 => ?_)
    · refine iteT ?_
      repeat walk_at "r2"
      exact ⟨by show 1 ≤ sizeLine; decide, bad (by omega)⟩
    repeat walk_at "r2"
    refine iteD (fun h3 => ?_) (fun h3 => ?_)
    · repeat walk_at "r2"
      exact ⟨by show 1 ≤ sizeLine; decide, bad (by omega)⟩
    rw [if_pos (show 0 ≤ most ∧ most ≤ 1048576 by omega)] at k
    repeat walk_at "r2"
    refine rd_mkD ?_
    repeat walk_at "r2"
    intro x dx hx hdx hne
    refine ⟨x, dx, ca, most, ow, co, rfl, upd_same, fun H1 A1 I => ⟨rfl, ?_⟩⟩
    have R0 : Rep K CR H H t most H1 x A1 dx (Sa20.first code) false := rep_first hx hdx I hca hs1 hs2
    have hm : most.toNat ≤ 1048576 := by omega
    repeat walk_at "r2"
    refine ⟨fun m σ H' => ∃ rf : Int, σ = [some (.ref ca), some (.int most), some (.ref sa), some (.ref x), some (.int rf)] ∧
        ((rf = 0 ∧ ∃ A dx q, Rep K CR H H t most H' x A dx q false ∧ Okq most.toNat q ∧ mu q < m ∧ Sa20.run t most.toNat m q = Sa20.run t most.toNat Sa20.ENOUGH (Sa20.first code)) ∨
         (rf = 0 ∧ ∃ A dx q, Rep K CR H H t most H' x A dx q true ∧ q.out.length ≤ most.toNat ∧ Sa20.run t most.toNat Sa20.ENOUGH (Sa20.first code) = some (.inl q)) ∨
         (rf ≠ 0 ∧ Same H H' ∧ Sa20.run t most.toNat Sa20.ENOUGH (Sa20.first code) = some (.inr rf))), ⟨Sa20.ENOUGH, 0, rfl, .inl ⟨rfl, A1, dx, _, R0, first_ok _ _, first_mu _, rfl⟩⟩, ?_⟩
    rintro m σ H' ⟨rf, rfl, hcase⟩
    repeat walk_at "r2"
    rcases hcase with ⟨rfl, A2, dx2, q, R, ok, hmu, hrun⟩ | ⟨rfl, A2, dx2, q, R, hol, hres⟩ | ⟨hrf, sR, hres⟩
    · have ri := R.ins
      have hen : A2.ended = false := R.en
      refine iteD (fun _ => ?_) (fun h => absurd rfl h)
      repeat walk_at "r2"
      rw [hen]
      refine iteT ⟨fun σ' H'' => ∃ m', m' < m ∧ ∃ rf : Int, σ' = [some (.ref ca), some (.int most), some (.ref sa), some (.ref x), some (.int rf)] ∧
        ((rf = 0 ∧ ∃ A dx q, Rep K CR H H t most H'' x A dx q false ∧ Okq most.toNat q ∧ mu q < m' ∧ Sa20.run t most.toNat m' q = Sa20.run t most.toNat Sa20.ENOUGH (Sa20.first code)) ∨
         (rf = 0 ∧ ∃ A dx q, Rep K CR H H t most H'' x A dx q true ∧ q.out.length ≤ most.toNat ∧ Sa20.run t most.toNat Sa20.ENOUGH (Sa20.first code) = some (.inl q)) ∨
         (rf ≠ 0 ∧ Same H H'' ∧ Sa20.run t most.toNat Sa20.ENOUGH (Sa20.first code) = some (.inr rf))), fun _ _ h => h, ?_⟩
      repeat walk_at "r2"
      cases m with
      | zero => exact absurd hmu (Nat.not_lt_zero _)
      | succ n =>
        obtain ⟨r1, r2, r3⟩ := run_step2 hmu hrun
        refine ⟨H, H, t, most, x, A2, dx2, q, rfl, R, ⟨ok, by omega, by omega, hn1, hn2⟩, ?_⟩
        cases hst : Sa20.step t most.toNat q with
        | bad z =>
          intro H2 s2
          repeat walk_at "r2"
          have hz0 := step_bad hst
          exact ⟨0, Nat.zero_lt_succ _, z, rfl, .inr (.inr ⟨by omega, s2, r1 z hst⟩)⟩
        | over q' =>
          intro H2 A3 dx3 R3
          repeat walk_at "r2"
          exact ⟨0, Nat.zero_lt_succ _, 0, rfl, .inr (.inl ⟨rfl, A3, dx3, q', R3, step_over ok.ou hst, r2 q' hst⟩)⟩
        | on q' =>
          intro H2 A3 dx3 R3
          repeat walk_at "r2"
          obtain ⟨h5, h6⟩ := r3 ok q' hst
          exact ⟨n, Nat.lt_succ_self _, 0, rfl, .inl ⟨rfl, A3, dx3, q', R3, (step_ok ok hst).1, h5, h6⟩⟩
    · have ri := R.ins
      have rdr := R.dr
      have hen : A2.ended = true := R.en
      refine iteD (fun _ => ?_) (fun h => absurd rfl h)
      repeat walk_at "r2"
      rw [hen]
      refine iteF ?_
      repeat walk_at "r2"
      refine iteN (fun h => absurd rfl h) (fun _ => ?_)
      repeat walk_at "r2"
      refine ⟨by show 2 ≤ sizeLine; decide, fun p1 hp1 => ?_⟩
      have R2 := R.lay (o := .lst [.int (((izs q.out).length : Nat) : Int), .int A2.width]) hp1
      have ri2 := R2.ins
      repeat walk_at "r2"
      refine rd_cat upd_same R2.dr (by rw [ints_len]; show 2 + q.out.length ≤ sizeLine; omega) ?_
      intro p hp
      refine k _ p (R2.same.free hp) (R2.same.trans (Same.new hp)) ?_
      rw [upd_same]
      unfold runAns
      rw [hres, R.wi, ints_len]
      rfl
    · refine iteD (fun h => absurd h hrf) (fun _ => ?_)
      refine iteF ?_
      repeat walk_at "r2"
      refine iteN (fun _ => ?_) (fun h => absurd h hrf)
      repeat walk_at "r2"
      refine ⟨by show 1 ≤ sizeLine; decide, fun p hp => k _ p (sR.free hp) (sR.trans (Same.new hp)) ?_⟩
      rw [upd_same]
      unfold runAns
      rw [hres]
      rfl
def FB (h : Hp) (t : Addr) (b : Sa20.Bytes) : Prop := h t = some (.lst (bytesV b))
instance monoFB : Mono FB := ⟨fun s h => s _ _ h⟩
def natsOf (l : List Int) : List Nat := l.map Int.toNat
def spCut (K : PySem.W.Frag) : Sp := fun vs H Q _ => ∃ da ea, ∃ (data : Sa20.Bytes) (ends : List Int), vs = [.ref da, .ref ea] ∧ H da = some (.lst (bytesV data)) ∧ H ea = some (.lst (izs ends)) ∧ data.length ≤ 65536 ∧ ends.length ≤ 30000 ∧ (∀ z ∈ ends, 0 ≤ z) ∧
  (Sa20.ascending data.length 0 (natsOf ends) = true → ∀ H' p, Same H H' → SubsAt K (Nw H H') p (Sa20.pieces data 0 (natsOf ends)) → Q (.ref p) H') ∧ (Sa20.ascending data.length 0 (natsOf ends) = false → ∀ H', Same H H' → Q .non H')
theorem pieces_length (b : Sa20.Bytes) : ∀ (l : List Nat) (s : Nat), (Sa20.pieces b s l).length = l.length
  | [], _ => rfl
  | e :: l, s => by show (Sa20.pieces b e l).length + 1 = l.length + 1; rw [pieces_length b l e]
theorem cut_bytes {b : Sa20.Bytes} {s e : Nat} (h1 : s ≤ e) (h2 : e ≤ b.length) : cutV (bytesV b) (some (s : Int)) (some (e : Int)) = bytesV ((b.take e).drop s) := by
  unfold bytesV
  rw [cut_mid (by omega) (by omega) (by rw [List.length_map]; omega), Int.toNat_natCast, Int.toNat_natCast, List.map_drop, List.map_take, List.drop_take]
def jn (A B : Hp) : Hp := fun b => match A b with
  | some o => some o
  | none => B b
theorem jn_left {A B : Hp} : Same A (jn A B) := fun b o h => by unfold jn; rw [h]
theorem jn_of {A B : Hp} {b : Addr} {o : HO} (h : jn A B b = some o) : A b = some o ∨ (A b = none ∧ B b = some o) := by
  unfold jn at h
  cases e : A b with
  | some u => rw [e] at h; exact .inl h
  | none => rw [e] at h; exact .inr ⟨rfl, h⟩
theorem jn_right {A H H1 : Hp} (s : Same A H) : Same (Nw H H1) (jn A (Nw H H1)) := fun b o h => by
  have hn := s.free (of_nw h).1
  unfold jn; rw [hn]; exact h
theorem jn_same {A H H1 : Hp} {sa C d : Addr} {fs : List (Str × V)} {u : HO} (s : Same A H) (n : A sa = none) (hsa : H sa = some (.ins C d fs)) (s1 : Same H H1) : Same (jn A (Nw H H1)) (upd H1 sa u) := fun b o h => by
  rcases jn_of h with h | ⟨_, h⟩
  · rw [upd_ne (ne_of_none h n)]; exact s1 _ _ (s _ _ h)
  · obtain ⟨h0, h1⟩ := of_nw h
    rw [upd_ne (fun e => by rw [e, hsa] at h0; cases h0)]; exact h1
theorem jn_none {A H H1 : Hp} : ∀ b o, H b = some o → A b = none → jn A (Nw H H1) b = none := fun b o h k => by
  unfold jn; rw [k]
  show Nw H H1 b = none
  unfold Nw; rw [h]; rfl
def setKind (t : Sa20.Subrs) (kd : Int) (l : List Sa20.Bytes) : Sa20.Subrs := if kd = 0 then { t with own := l } else { t with common := l }
def okKind (kd : Int) (data : Sa20.Bytes) (ends : List Int) : Prop := (kd = 0 ∨ kd = 1) ∧ ends.length ≤ 2048 ∧ Sa20.ascending data.length 0 (natsOf ends) = true
def spReplace (K : PySem.W.Frag) (CS : Addr) : Sp := fun vs H Q _ => ∃ sa ds ow co kd da ea, ∃ (t : Sa20.Subrs) (data : Sa20.Bytes) (ends : List Int), vs = [.ref sa, .int kd, .ref da, .ref ea] ∧ H sa = some (.ins CS ds (flS ow co)) ∧ H da = some (.lst (bytesV data)) ∧ H ea = some (.lst (izs ends)) ∧
  data.length ≤ 65536 ∧ ends.length ≤ 30000 ∧ (∀ z ∈ ends, 0 ≤ z) ∧ ∃ Hs : Hp, Same Hs H ∧ Hs sa = none ∧ SubsAt K Hs ow t.own ∧ SubsAt K Hs co t.common ∧
  (okKind kd data ends → ∀ H' ow' co' Hs', (∀ b o, H b = some o → b ≠ sa → H' b = some o) → H' sa = some (.ins CS ds (flS ow' co')) → Same Hs' H' → (∀ b o, H b = some o → Hs b = none → Hs' b = none) → SubsAt K Hs' ow' (setKind t kd (Sa20.pieces data 0 (natsOf ends))).own → SubsAt K Hs' co' (setKind t kd (Sa20.pieces data 0 (natsOf ends))).common → Q (.int 0) H') ∧
  (¬ okKind kd data ends → ∀ H', Same H H' → Q (.int (-1)) H')
def spRow (K : PySem.W.Frag) : Sp := fun vs H Q _ => ∃ a, ∃ (l : List Int) (j n : Nat), vs = [.ref a, .int (j : Int)] ∧ SqL K H a (izs l) ∧ l[j]? = some (n : Int) ∧ j + 1 + n ≤ l.length ∧ ∀ p, H p = none → Q (.ref p) (upd H p (.lst (izs ((l.drop (j + 1)).take n))))
theorem def_cut_at (T : Txt P w K mg CR CS) : Def P w K mg base "cut_at" 1 ["data", "ends"] (spCut K) := by
  refine T.f_cut_at.mk sc_cut_at (fun _ _ _ _ _ _ us hl => match us, hl with | [_, _], _ => rfl) (fun vs H Q E h => ?_) (fun f cdv A outer s H vs Q E hr h => ?_)
  · obtain ⟨da, ea, data, ends, rfl, hda, hea, hdl, hel, hpos, kg, kb⟩ := h; rfl
  · obtain ⟨da, ea, data, ends, rfl, hda, hea, hdl, hel, hpos, kg, kb⟩ := h
    refine ⟨_, (pss_cons (ps_set (i := 2) sc_cut_at.nd rfl (Or.inl rfl) (pe_lst pa_nil)) (pss_cons (ps_set (i := 3) sc_cut_at.nd rfl (Or.inl rfl) pe_int) (pss_cons (ps_for PassesOwn.never rfl (pi_list (pv 1)) (pg_name (i := 4) sc_cut_at.nd rfl (Or.inl rfl)) (pss_cons (ps_if (PW.pt (pw_or (pt_cmpR op_lt (pv 4) (pv 3) (nomark _)) (pw_or1 (pt_cmpR op_gt (pv 4) (pe_callB call_lenR rfl T.b_len bt_len (pa_cons (pv 0) pa_nil)) (nomark _))))) (pss_one (ps_ret pe_non)) pss_nil) (pss_cons (ps_expr (pe_bm PySem.F.plainAttrs_list PySem.F.slot_list_append PySem.F.type_list_append mt_append (pv 2) (pa_cons (pe_slice sl_list (pv 0) (po_some (pv 3)) (po_some (pv 4))) pa_nil))) (pss_one (ps_set (i := 3) sc_cut_at.nd rfl (Or.inl rfl) (pv 4)))))) (pss_one (ps_ret (pv 2)))))), ?_⟩
    repeat walk_at "r2"
    have hz : (sizeLine : Nat) = 16777216 := sizeLine_eq
    refine ⟨Nat.zero_le _, fun p hp => ?_⟩
    have hea1 := keepN (o := .lst []) hea hp
    repeat walk_at "r2"
    refine loop_list (xs := izs ends) (fun i σ H' => ∃ st : Nat, ∃ v4 as pre, σ = [some (.ref da), some (.ref ea), some (.ref p), some (.int (st : Int)), v4] ∧ ColAt FB H p H' as pre ∧ pre.length = i ∧ st ≤ data.length ∧
        Sa20.ascending data.length 0 (natsOf ends) = Sa20.ascending data.length st (natsOf (ends.drop i)) ∧ Sa20.pieces data 0 (natsOf ends) = pre ++ Sa20.pieces data st (natsOf (ends.drop i))) ?_ ?_ ?_ ?_
    · exact ⟨0, none, [], [], rfl, ColAt.start hp (Same.refl _), rfl, Nat.zero_le _, rfl, rfl⟩
    · rintro i σ H' _ ⟨_, _, _, _, _, C, _⟩
      exact SqL.of (C.same _ _ hea)
    · rintro i y σ H' hi ⟨st, v4, as, pre, rfl, C, hpl, hst, hasc, hpcs⟩
      obtain ⟨z, hzz, rfl⟩ := ints_get hi
      have hil : i < ends.length := (List.getElem?_eq_some_iff.mp hzz).1
      have hz0 : 0 ≤ z := hpos z (List.mem_of_getElem? hzz)
      obtain ⟨e, rfl⟩ : ∃ e : Nat, z = (e : Int) := ⟨z.toNat, by omega⟩
      have edr : natsOf (ends.drop i) = e :: natsOf (ends.drop (i + 1)) := by
        rw [List.drop_eq_getElem_cons hil]
        rw [List.getElem?_eq_getElem hil] at hzz
        rw [Option.some.inj hzz]; rfl
      rw [edr] at hasc hpcs
      have hda1 := C.same _ _ hda
      have hlen : as.length = i := by rw [C.all.length, hpl]
      have bad : e < st ∨ data.length < e → Q .non H' := fun h => by
        refine kb ?_ _ C.same
        rw [hasc]
        show (decide (st ≤ e) && (decide (e ≤ data.length) && _)) = false
        rcases h with h | h
        · rw [decide_eq_false (by omega)]; rfl
        · rw [decide_eq_false (show ¬ e ≤ data.length by omega)]; simp
      repeat walk_at "r2"
      refine iteD (fun h1 => ?_) (fun h1 => ?_)
      · refine iteT ?_
        repeat walk_at "r2"
        exact bad (.inl (by omega))
      repeat walk_at "r2"
      refine iteD (fun h2 => ?_) (fun h2 => ?_)
      · rw [bytesV_len] at h2
        repeat walk_at "r2"
        exact bad (.inr (by omega))
      rw [bytesV_len] at h2
      repeat walk_at "r2"
      refine ⟨ty_list C.at_, ?_⟩
      repeat walk_at "r2"
      rw [cut_bytes (by omega) (by omega)]
      intro t ht
      repeat walk_at "r2"
      refine rd_append (keepN C.at_ ht) (by rw [List.length_map]; omega) ?_
      repeat walk_at "r2"
      refine ⟨e, _, as ++ [t], pre ++ [(data.take e).drop st], rfl, C.push (Same.new ht) (nw_of (C.free ht) upd_same), by rw [List.length_append, hpl]; rfl, by omega, ?_, by rw [hpcs, List.append_assoc]; rfl⟩
      rw [hasc]
      show (decide (st ≤ e) && (decide (e ≤ data.length) && Sa20.ascending data.length e (natsOf (ends.drop (i + 1))))) = _
      rw [decide_eq_true (by omega), decide_eq_true (show e ≤ data.length by omega)]; simp
    · rintro σ H' ⟨st, v4, as, pre, rfl, C, hpl, hst, hasc, hpcs⟩
      rw [ints_len, List.drop_length] at hasc hpcs
      have hpcs : Sa20.pieces data 0 (natsOf ends) = pre ++ [] := hpcs
      rw [List.append_nil] at hpcs
      repeat walk_at "r2"
      refine kg hasc _ _ C.same ?_
      rw [hpcs]
      obtain ⟨bs, g1, g2⟩ := C.done
      exact ⟨bs, SqL.of g1, g2.imp fun _ _ q => SqL.of q⟩
theorem def_replace_kind (T : Txt P w K mg CR CS) : Def P w K mg base "replace_kind" 2 ["subroutines", "kind", "data", "ends"] (spReplace K CS) := by
  refine T.f_replace_kind.mk sc_replace_kind (fun _ _ _ _ _ _ us hl => match us, hl with | [_, _, _, _], _ => rfl) (fun vs H Q E h => ?_) (fun f cdv A outer s H vs Q E hr h => ?_)
  · obtain ⟨sa, ds, ow, co, kd, da, ea, t, data, ends, rfl, hsa, hda, hea, hdl, hel, hpos, Hs, hsS, hsN, hs1, hs2, kg, kb⟩ := h; rfl
  · obtain ⟨sa, ds, ow, co, kd, da, ea, t, data, ends, rfl, hsa, hda, hea, hdl, hel, hpos, Hs, hsS, hsN, hs1, hs2, kg, kb⟩ := h
    refine ⟨_, (pss_cons (ps_if (PW.pt (pw_and (pt_cmpR op_ne (pv 1) (pe_cst T.c_OWN_KIND) (nomark _)) (pw_and1 (pt_cmpR op_ne (pv 1) (pe_cst T.c_COMMON_KIND) (nomark _))))) (pss_one (ps_ret (pe_cst T.c_WRONG_CALL))) pss_nil) (pss_cons (ps_if (PW.pt (pw_or (pt_cmpR op_gt (pe_callB call_lenR rfl T.b_len bt_len (pa_cons (pv 2) pa_nil)) (pe_cst T.c_MOST_BYTES) (nomark _)) (pw_or1 (pt_cmpR op_gt (pe_callB call_lenR rfl T.b_len bt_len (pa_cons (pv 3) pa_nil)) (pe_cst T.c_MOST_SUBROUTINES) (nomark _))))) (pss_one (ps_ret (pe_cst T.c_WRONG_CALL))) pss_nil) (pss_cons (ps_set (i := 4) sc_replace_kind.nd rfl (Or.inl rfl) (pe_callD (def_cut_at T) (hr.mono (by decide)) rfl (pa_cons (pv 2) (pa_cons (pv 3) pa_nil)))) (pss_cons (ps_if (pt_cmp (pc_isN (pv 4))) (pss_one (ps_ret (pe_cst T.c_WRONG_CALL))) pss_nil) (pss_cons (ps_if (pt_cmpR op_eq (pv 1) (pe_cst T.c_OWN_KIND) (nomark _)) (pss_one (ps_fld (pv 0) (pv 4) rfl)) (pss_one (ps_fld (pv 0) (pv 4) rfl))) (pss_one (ps_ret (pe_cst T.c_FINE)))))))), ?_⟩
    repeat walk_at "r2"
    have hz : (sizeLine : Nat) = 16777216 := sizeLine_eq
    have bad : ¬ okKind kd data ends → Q (.int (-1)) H := fun h => kb h _ (Same.refl _)
    refine iteN (fun h1 => ?_) (fun h1 => ?_)
    · repeat walk_at "r2"
      refine iteN (fun h2 => ?_) (fun h2 => ?_)
      · repeat walk_at "r2"
        exact bad (fun q => by rcases q.1 with q | q <;> omega)
      have hk : kd = 0 ∨ kd = 1 := .inr h2
      repeat walk_at "r2"
      refine iteD (fun h3 => ?_) (fun h3 => ?_)
      · rw [bytesV_len] at h3
        exact absurd h3 (by omega)
      repeat walk_at "r2"
      refine iteD (fun h4 => ?_) (fun h4 => ?_)
      · rw [ints_len] at h4
        repeat walk_at "r2"
        exact bad (fun q => by have := q.2.1; omega)
      rw [ints_len] at h4
      repeat walk_at "r2"
      refine ⟨da, ea, data, ends, rfl, hda, hea, hdl, hel, hpos, fun hac H1 p s1 hp => ?_, fun hac H1 s1 => ?_⟩
      · have hsa1 := s1 _ _ hsa
        repeat walk_at "r2"
        refine iteD (fun h5 => ?_) (fun h5 => ?_)
        · repeat walk_at "r2"
          refine kg ⟨hk, by omega, hac⟩ _ p co (jn Hs (Nw H H1)) (fun b o h n => (upd_ne n).trans (s1 _ _ h)) upd_same (jn_same hsS hsN hsa s1) jn_none ?_ ?_
          · unfold setKind
            rw [if_pos h5]
            exact hp.keep (jn_right hsS)
          · unfold setKind
            rw [if_pos h5]
            exact hs2.keep jn_left
        · repeat walk_at "r2"
          refine kg ⟨hk, by omega, hac⟩ _ ow p (jn Hs (Nw H H1)) (fun b o h n => (upd_ne n).trans (s1 _ _ h)) upd_same (jn_same hsS hsN hsa s1) jn_none ?_ ?_
          · unfold setKind
            rw [if_neg h5]
            exact hs1.keep jn_left
          · unfold setKind
            rw [if_neg h5]
            exact hp.keep (jn_right hsS)
      · repeat walk_at "r2"
        exact kb (fun q => by rw [q.2.2] at hac; cases hac) _ s1
    · refine iteF ?_
      have hk : kd = 0 ∨ kd = 1 := .inl h1
      repeat walk_at "r2"
      refine iteD (fun h3 => ?_) (fun h3 => ?_)
      · rw [bytesV_len] at h3
        exact absurd h3 (by omega)
      repeat walk_at "r2"
      refine iteD (fun h4 => ?_) (fun h4 => ?_)
      · rw [ints_len] at h4
        repeat walk_at "r2"
        exact bad (fun q => by have := q.2.1; omega)
      rw [ints_len] at h4
      repeat walk_at "r2"
      refine ⟨da, ea, data, ends, rfl, hda, hea, hdl, hel, hpos, fun hac H1 p s1 hp => ?_, fun hac H1 s1 => ?_⟩
      · have hsa1 := s1 _ _ hsa
        repeat walk_at "r2"
        refine iteD (fun h5 => ?_) (fun h5 => ?_)
        · repeat walk_at "r2"
          refine kg ⟨hk, by omega, hac⟩ _ p co (jn Hs (Nw H H1)) (fun b o h n => (upd_ne n).trans (s1 _ _ h)) upd_same (jn_same hsS hsN hsa s1) jn_none ?_ ?_
          · unfold setKind
            rw [if_pos h5]
            exact hp.keep (jn_right hsS)
          · unfold setKind
            rw [if_pos h5]
            exact hs2.keep jn_left
        · repeat walk_at "r2"
          refine kg ⟨hk, by omega, hac⟩ _ ow p (jn Hs (Nw H H1)) (fun b o h n => (upd_ne n).trans (s1 _ _ h)) upd_same (jn_same hsS hsN hsa s1) jn_none ?_ ?_
          · unfold setKind
            rw [if_neg h5]
            exact hs1.keep jn_left
          · unfold setKind
            rw [if_neg h5]
            exact hp.keep (jn_right hsS)
      · repeat walk_at "r2"
        exact kb (fun q => by rw [q.2.2] at hac; cases hac) _ s1
theorem def_row_at (T : Txt P w K mg CR CS) : Def P w K mg base "row_at" 1 ["calls", "at"] (spRow K) := by
  refine T.f_row_at.mk sc_row_at (fun _ _ _ _ _ _ us hl => match us, hl with | [_, _], _ => rfl) (fun vs H Q E h => ?_) (fun f cdv A outer s H vs Q E hr h => ?_)
  · obtain ⟨a, l, j, n, rfl, ha, hj, hn, k⟩ := h; rfl
  · obtain ⟨a, l, j, n, rfl, ha, hj, hn, k⟩ := h
    refine ⟨_, (pss_one (ps_ret (pe_slice sl_list (pv 0) (po_some (pe_op op_add (pv 1) pe_int)) (po_some (pe_op op_add (pe_op op_add (pv 1) pe_int) (pe_ix ix_list (pv 0) (pv 1) (fun _ _ => rfl))))))), ?_⟩
    repeat walk_at "r2"
    refine rd_ixL ha (v := .int (n : Int)) (at_ints hj) ?_
    repeat walk_at "r2"
    have e : cutV (izs l) (some ((j : Int) + 1)) (some ((j : Int) + 1 + (n : Int))) = izs ((l.drop (j + 1)).take n) := by
      rw [cut_mid (by omega) (by omega) (by omega)]
      have e1 : ((j : Int) + 1).toNat = j + 1 := by omega
      have e2 : ((j : Int) + 1 + (n : Int)).toNat - ((j : Int) + 1).toNat = n := by omega
      rw [e2, e1]
    rw [e]
    exact k
theorem told_len : ∀ (cs : List Sa20Neutral.Call) (s : Sa20Neutral.S), (PyFlat.told (PyFlat.played Sa20Neutral.step s cs)).length = cs.length + Sa20Neutral.told s cs
  | [], _ => rfl
  | c :: r, s => by
    have ih := told_len r (Sa20Neutral.step s c).1
    show ((((Sa20Neutral.step s c).2.length : Int) :: (Sa20Neutral.step s c).2) ++ PyFlat.told (PyFlat.played Sa20Neutral.step (Sa20Neutral.step s c).1 r)).length = (r.length + 1) + ((Sa20Neutral.step s c).2.length + Sa20Neutral.told (Sa20Neutral.step s c).1 r)
    rw [List.length_append, ih, List.length_cons]; omega
theorem told_cons (c : Sa20Neutral.Call) (r : List Sa20Neutral.Call) (s : Sa20Neutral.S) {s' : Sa20Neutral.S} {a : List Int} (e : Sa20Neutral.step s c = (s', a)) :
    PyFlat.told (PyFlat.played Sa20Neutral.step s (c :: r)) = ((a.length : Int) :: a) ++ PyFlat.told (PyFlat.played Sa20Neutral.step s' r) := by
  show (((Sa20Neutral.step s c).2.length : Int) :: (Sa20Neutral.step s c).2) ++ PyFlat.told (PyFlat.played Sa20Neutral.step (Sa20Neutral.step s c).1 r) = _
  rw [e]
theorem bytesOf_len (b : List Int) : (Sa20Neutral.bytesOf b).length = b.length := List.length_map _
theorem step_subrs {s : Sa20.Subrs} {g : Int} {b e : List Int} (hb : b.length ≤ 65536) : (okKind g (Sa20Neutral.bytesOf b) e → Sa20Neutral.step s [[0, g, (b.length : Int), (e.length : Int)], b, e] = (setKind s g (Sa20.pieces (Sa20Neutral.bytesOf b) 0 (natsOf e)), [0])) ∧
    (¬ okKind g (Sa20Neutral.bytesOf b) e → Sa20Neutral.step s [[0, g, (b.length : Int), (e.length : Int)], b, e] = (s, [-1])) := by
  have w1 : ∀ z lo hi : Int, Sa20.within z lo hi = true ↔ lo ≤ z ∧ z ≤ hi := fun z lo hi => by unfold Sa20.within; rw [Bool.and_eq_true, decide_eq_true_eq, decide_eq_true_eq]
  have key : okKind g (Sa20Neutral.bytesOf b) e ↔ (Sa20.within g 0 1 = true ∧ Sa20.within (b.length : Int) 0 65536 = true ∧ Sa20.within (e.length : Int) 0 2048 = true ∧ Sa20.ascending (b.length : Int).toNat 0 (Sa20Neutral.nats e) = true) := by
    unfold okKind
    rw [w1, w1, w1, bytesOf_len, Int.toNat_natCast]
    constructor
    · rintro ⟨h1, h2, h3⟩
      exact ⟨by omega, by omega, by omega, h3⟩
    · rintro ⟨h1, h2, h3, h4⟩
      exact ⟨by omega, by omega, h4⟩
  constructor
  · intro h
    have h' := key.mp h
    unfold Sa20Neutral.step Sa20Neutral.callOf
    simp only
    unfold Sa20.spec
    simp only
    rw [if_pos h']
    unfold setKind
    rfl
  · intro h
    unfold Sa20Neutral.step Sa20Neutral.callOf
    simp only
    unfold Sa20.spec
    simp only
    rw [if_neg (fun q => h (key.mpr q))]
    rfl
theorem at_z {l : List Int} {z x : Int} {j : Nat} (e : z = (j : Int)) (h : l[j]? = some x) : atI (izs l) z = some (.int x) := by rw [e]; exact at_ints h
theorem bytesV_of {b : List Int} (h : byteList b) : bytesV (Sa20Neutral.bytesOf b) = izs b := by unfold bytesV; rw [bytes_back h]
theorem setKind_len {t : Sa20.Subrs} {g : Int} {l : List Sa20.Bytes} (h1 : t.own.length ≤ 2048) (h2 : t.common.length ≤ 2048) (h : l.length ≤ 2048) : (setKind t g l).own.length ≤ 2048 ∧ (setKind t g l).common.length ≤ 2048 := by
  unfold setKind
  split
  · exact ⟨h, h2⟩
  · exact ⟨h1, h⟩
structure AnsIn (K : PySem.W.Frag) (CS : Addr) (H : Hp) (sa ds ga : Addr) (ns : List Int) (j : Nat) (H' : Hp) (ow co : Addr) (t : Sa20.Subrs) (gs : List Int) (cs : List (List (List Int))) (Hs : Hp) : Prop where
  same : Same H H'
  sub : H' sa = some (.ins CS ds (flS ow co))
  giv : H' ga = some (.lst (izs gs))
  hs : Same Hs H'
  hn : Hs sa = none
  hg : Hs ga = none
  s1 : SubsAt K Hs ow t.own
  s2 : SubsAt K Hs co t.common
  n1 : t.own.length ≤ 2048
  n2 : t.common.length ≤ 2048
  as : ∀ c ∈ cs, Sa20Neutral.asked1 (PySa20.whole c) = true
  eq : gs ++ PyFlat.told (PyFlat.played Sa20Neutral.step t (cs.map PySa20.whole)) = PySa20.answers ns
def AnsInv (K : PySem.W.Frag) (CS : Addr) (H : Hp) (a sa ds ga : Addr) (ns : List Int) (m : Nat) (σ : St) (H' : Hp) : Prop :=
  ∃ j v4 v5 v6 v7 ow co t gs cs f Hs, σ = [some (.ref a), some (.ref sa), some (.ref ga), some (.int ((j : Nat) : Int)), v4, v5, v6, v7] ∧ AnsIn K CS H sa ds ga ns j H' ow co t gs cs Hs ∧ PyFlat.calls PySa20.shape f (ns.drop j) = some cs ∧ m = ns.length - j
theorem AnsIn.next {K : PySem.W.Frag} {CS : Addr} {H : Hp} {sa ds ga : Addr} {ns : List Int} {j j' : Nat} {H' H4 : Hp} {ow co ow' co' : Addr} {t t' : Sa20.Subrs} {gs ans : List Int} {c : List (List Int)} {cs : List (List (List Int))} {Hs Hs' : Hp}
    (I : AnsIn K CS H sa ds ga ns j H' ow co t gs (c :: cs) Hs) (hgn : H ga = none) (e : Sa20Neutral.step t (PySa20.whole c) = (t', ans)) (s4 : Same H H4) (sub : H4 sa = some (.ins CS ds (flS ow' co'))) (giv : H4 ga = some (.lst (izs gs))) (hs : Same Hs' H4) (hn : Hs' sa = none) (hg : Hs' ga = none)
    (s1 : SubsAt K Hs' ow' t'.own) (s2 : SubsAt K Hs' co' t'.common) (n1 : t'.own.length ≤ 2048) (n2 : t'.common.length ≤ 2048) :
    AnsIn K CS H sa ds ga ns j' (upd (upd H4 ga (.lst (izs gs ++ [.int (ans.length : Nat)]))) ga (.lst ((izs gs ++ [.int (ans.length : Nat)]) ++ izs ans))) ow' co' t' (gs ++ ((ans.length : Int) :: ans)) cs Hs' := by
  have ns : sa ≠ ga := fun q => by rw [q, giv] at sub; cases sub
  refine ⟨fun b o h => ?_, ?_, ?_, fun b o h => ?_, hn, hg, s1, s2, n1, n2, fun x hx => I.as x (List.mem_cons_of_mem _ hx), ?_⟩
  · rw [upd_ne (ne_of_none h hgn), upd_ne (ne_of_none h hgn)]; exact s4 _ _ h
  · rw [upd_ne ns, upd_ne ns]; exact sub
  · rw [upd_same, List.append_assoc, ints_app]; rfl
  · rw [upd_ne (ne_of_none h hg), upd_ne (ne_of_none h hg)]; exact hs _ _ h
  · rw [← I.eq, List.map_cons, told_cons _ _ _ e, List.append_assoc]
theorem AnsIn.len {K : PySem.W.Frag} {CS : Addr} {H : Hp} {sa ds ga : Addr} {ns : List Int} {j : Nat} {H' : Hp} {ow co : Addr} {t t' : Sa20.Subrs} {gs ans : List Int} {c : List (List Int)} {cs : List (List (List Int))} {Hs : Hp}
    (I : AnsIn K CS H sa ds ga ns j H' ow co t gs (c :: cs) Hs) (hb : (PySa20.answers ns).length ≤ 2000000) (e : Sa20Neutral.step t (PySa20.whole c) = (t', ans)) : gs.length + 1 + ans.length ≤ 2000000 := by
  have h := I.eq
  rw [List.map_cons, told_cons _ _ _ e] at h
  rw [← h, List.length_append, List.length_append, List.length_cons] at hb
  omega
theorem answers_facts {ns : List Int} (h : PySa20.answers_asked ns = true) : ∃ cs, PyFlat.calls PySa20.shape ns.length ns = some cs ∧ (∀ c ∈ cs, Sa20Neutral.asked1 (PySa20.whole c) = true) ∧ PySa20.answers ns = PyFlat.told (PyFlat.played Sa20Neutral.step Sa20Neutral.start (cs.map PySa20.whole)) ∧ (PySa20.answers ns).length ≤ 2000000 := by
  unfold PySa20.answers_asked PySa20.calls at h
  cases hc : PyFlat.calls PySa20.shape ns.length ns with
  | none => rw [hc] at h; cases h
  | some cs =>
    rw [hc] at h
    have h : (PyFlat.atMost 60 (cs.map PySa20.whole) && Sa20Neutral.asked (cs.map PySa20.whole)) = true := h
    have ea : PySa20.answers ns = PyFlat.told (PyFlat.played Sa20Neutral.step Sa20Neutral.start (cs.map PySa20.whole)) := by
      unfold PySa20.answers PySa20.calls
      rw [hc]
    unfold PyFlat.atMost Sa20Neutral.asked at h
    simp only [Bool.and_eq_true, List.all_eq_true, decide_eq_true_eq] at h
    obtain ⟨h1, h2, h3, h4, h5⟩ := h
    refine ⟨cs, rfl, fun c hc => h2 _ (List.mem_map_of_mem hc), ea, ?_⟩
    rw [ea, told_len]; omega
def spAns (CS : Addr) (K : PySem.W.Frag) : Sp := fun vs H Q _ => ∃ a ns, vs = [.ref a] ∧ SqL K H a (izs ns) ∧ ns.length ≤ 30000 ∧ PySa20.answers_asked ns = true ∧ ∀ H' p, H' p = some (.lst (izs (PySa20.answers ns))) → Q (.ref p) H'
theorem ok_answers (T : Txt P w K mg CR CS) {fa : Addr} {fd : FuncData} (F : Fun K "answers" "answers" s_answers fa fd) : FnOk P w K mg base CX0 9 fa fd ["calls"] (spAns CS K) := by
  refine F.ok sc_answers (fun vs H Q E h => ?_) (fun cdv A outer s H vs Q E hr h => ?_)
  · obtain ⟨a, ns, rfl, hA, hn3, hask, k⟩ := h; rfl
  · obtain ⟨a, ns, rfl, hA, hn3, hask, k⟩ := h
    refine ⟨_, (pss_cons (ps_set (i := 1) sc_answers.nd rfl (Or.inl rfl) (pe_mkD0 (mk_Subroutines T) (hr.mono (by decide)) rfl)) (pss_cons (ps_set (i := 2) sc_answers.nd rfl (Or.inl rfl) (pe_lst pa_nil)) (pss_cons (ps_set (i := 3) sc_answers.nd rfl (Or.inl rfl) pe_int) (pss_cons (ps_while PassesOwn.never (pt_cmpR op_lt (pv 3) (pe_callB call_lenR rfl T.b_len bt_len (pa_cons (pv 0) pa_nil)) (nomark _)) (pss_cons (ps_set (i := 4) sc_answers.nd rfl (Or.inl rfl) (pe_callD (def_row_at T) (hr.mono (by decide)) rfl (pa_cons (pv 0) (pa_cons (pe_op op_add (pv 3) pe_int) pa_nil)))) (pss_cons (ps_set (i := 5) sc_answers.nd rfl (Or.inl rfl) (pe_op op_add (pe_op op_add (pv 3) pe_int) (pe_callB call_lenR rfl T.b_len bt_len (pa_cons (pv 4) pa_nil)))) (pss_cons (ps_if (pt_cmpR op_eq (pe_ix ix_list (pv 0) (pv 3) (fun _ _ => rfl)) (pe_cst T.c_SUBRS) (nomark _)) (pss_cons (ps_set (i := 6) sc_answers.nd rfl (Or.inl rfl) (pe_callD (def_row_at T) (hr.mono (by decide)) rfl (pa_cons (pv 0) (pa_cons (pv 5) pa_nil)))) (pss_cons (ps_aug (i := 5) sc_answers.nd rfl (Or.inl rfl) (pe_op op_add pe_int (pe_callB call_lenR rfl T.b_len bt_len (pa_cons (pv 6) pa_nil))) ip_add) (pss_one (ps_set (i := 7) sc_answers.nd rfl (Or.inl rfl) (pe_lst (pa_cons (pe_callD (def_replace_kind T) (hr.mono (by decide)) rfl (pa_cons (pv 1) (pa_cons (pe_ix ix_list (pv 0) (pe_op op_add (pv 3) pe_int) (fun _ _ => rfl)) (pa_cons (pv 4) (pa_cons (pv 6) pa_nil))))) pa_nil)))))) (pss_one (ps_set (i := 7) sc_answers.nd rfl (Or.inl rfl) (pe_callD (def_run_program T) (hr.mono (by decide)) rfl (pa_cons (pv 4) (pa_cons (pe_ix ix_list (pv 0) (pe_op op_add (pv 3) pe_int) (fun _ _ => rfl)) (pa_cons (pv 1) pa_nil))))))) (pss_cons (ps_expr (pe_bm PySem.F.plainAttrs_list PySem.F.slot_list_append PySem.F.type_list_append mt_append (pv 2) (pa_cons (pe_callB call_lenR rfl T.b_len bt_len (pa_cons (pv 7) pa_nil)) pa_nil))) (pss_cons (ps_expr (pe_bm PySem.F.plainAttrs_list PySem.F.slot_list_extend PySem.F.type_list_extend mt_extend (pv 2) (pa_cons (pv 7) pa_nil))) (pss_one (ps_set (i := 3) sc_answers.nd rfl (Or.inl rfl) (pv 5))))))))) (pss_one (ps_ret (pv 2))))))), ?_⟩
    repeat walk_at "r2"
    have hz : (sizeLine : Nat) = 16777216 := sizeLine_eq
    obtain ⟨cs0, hcs0, has0, hans, hlen⟩ := answers_facts hask
    refine rd_mkD ?_
    repeat walk_at "r2"
    intro sa ds hsa hds hne
    refine ⟨sa, ds, rfl, upd_same, fun H1 ow co hi how hco hown hcon kp => ⟨rfl, ?_⟩⟩
    have s01 : Same H H1 := fun b o h => kp b o (by rw [upd_ne (ne_of_none h hsa), upd_ne (ne_of_none h hds)]; exact h) (ne_of_none h hsa)
    repeat walk_at "r2"
    refine ⟨Nat.zero_le _, fun ga hga => ?_⟩
    have hgn : H ga = none := s01.free hga
    have n1 : ow ≠ ga := ne_of_none how hga
    have n2 : co ≠ ga := ne_of_none hco hga
    have n3 : sa ≠ ow := Ne.symm (ne_ll hi how)
    have n4 : sa ≠ co := Ne.symm (ne_ll hi hco)
    repeat walk_at "r2"
    refine ⟨AnsInv K CS H a sa ds ga ns, ⟨ns.length - 0, 0, none, none, none, none, ow, co, ⟨[], []⟩, [], cs0, ns.length, upd (upd (fun _ => none) ow (.lst [])) co (.lst []), rfl, ⟨s01.trans (Same.new hga), keepN hi hga, upd_same, fun b o h => ?_, ?_, ?_, ⟨[], SqL.of ?_, .nil⟩, ⟨[], SqL.of upd_same, .nil⟩, Nat.zero_le _, Nat.zero_le _, has0, by rw [hans]; rfl⟩, by rw [List.drop_zero]; exact hcs0, rfl⟩, ?_⟩
    · by_cases q : b = co
      · subst q
        rw [upd_same] at h
        cases h
        exact keepN hco hga
      · rw [upd_ne q] at h
        by_cases q2 : b = ow
        · subst q2
          rw [upd_same] at h
          cases h
          exact keepN how hga
        · rw [upd_ne q2] at h
          cases h
    · rw [upd_ne n4, upd_ne n3]
    · rw [upd_ne (Ne.symm n2), upd_ne (Ne.symm n1)]
    · by_cases q : ow = co
      · rw [q]; exact upd_same
      · rw [upd_ne q]; exact upd_same
    rintro m σ H' ⟨j, v4, v5, v6, v7, ow', co', t, gs, cs, f0, Hs, rfl, I, hcs, rfl⟩
    have hA1 : SqL K H' a (izs ns) := I.same.seq hA
    have hsub := I.sub
    repeat walk_at "r2"
    refine iteD (fun h1 => ⟨fun σ' H'' => ∃ m', m' < ns.length - j ∧ AnsInv K CS H a sa ds ga ns m' σ' H'', fun _ _ h => h, ?_⟩) (fun h1 => ?_)
    · rw [ints_len] at h1
      obtain ⟨c, t', cs', f', hc, hcs', rfl⟩ := calls_cons (by omega) hcs
      have hac := I.as c (List.mem_cons_self ..)
      rcases call_two hc with ⟨x0, n, m, e1, e2, e3, e4, hle, rfl, rfl, hl1, hl2⟩ | ⟨x0, n, e1, e2, e3, hle, rfl, rfl, hl1⟩
      · generalize hb : (ns.drop (j + 3)).take n = b at *
        generalize he : (ns.drop (j + 4 + n)).take m = e at *
        have hw : PySa20.whole [[0, x0], b, e] = [[0, x0, (b.length : Int), (e.length : Int)], b, e] := rfl
        rw [hw] at hac
        obtain ⟨hbb, hee⟩ := asked_subrs hac
        obtain ⟨st1, st2⟩ := step_subrs (s := t) (g := x0) (b := b) (e := e) (by omega)
        rw [← hw] at st1 st2
        repeat walk_at "r2"
        refine ⟨a, ns, j + 2, n, by rfl, hA1, e3, by omega, fun p1 hp1 => ?_⟩
        rw [hb]
        have hA2 : SqL K (upd H' p1 (.lst (izs b))) a (izs ns) := (Same.new hp1).seq hA1
        repeat walk_at "r2"
        refine rd_ixL hA2 (at_z rfl e1) ?_
        repeat walk_at "r2"
        refine iteD (fun _ => ?_) (fun h => absurd rfl h)
        repeat walk_at "r2"
        refine ⟨a, ns, j + 3 + n, m, by rw [ints_len, hl1]; rfl, hA2, e4, by omega, fun p2 hp2 => ?_⟩
        rw [show ns.drop (j + 3 + n + 1) = ns.drop (j + 4 + n) by congr 1; omega, he]
        have ej : (j : Int) + 3 + ((izs b).length : Nat) + (1 + ((izs e).length : Nat)) = ((j + 4 + n + m : Nat) : Int) := by rw [ints_len, ints_len]; omega
        have hA3 : SqL K (upd (upd H' p1 (.lst (izs b))) p2 (.lst (izs e))) a (izs ns) := (Same.new hp2).seq hA2
        have sP : Same H' (upd (upd H' p1 (.lst (izs b))) p2 (.lst (izs e))) := (Same.new hp1).trans (Same.new hp2)
        repeat walk_at "r2"
        refine rd_ixL hA3 (at_z (j := j + 1) (by omega) e2) ?_
        repeat walk_at "r2"
        refine ⟨sa, ds, ow', co', x0, p1, p2, t, Sa20Neutral.bytesOf b, e, rfl, sP _ _ I.sub, by rw [bytesV_of hbb]; exact keepN upd_same hp2, upd_same, by rw [bytesOf_len]; omega, by omega, hee, Hs, I.hs.trans sP, I.hn, I.s1, I.s2, fun hok H4 ow2 co2 Hs2 kp4 hsa4 hss4 hno hb1 hb2 => ?_, fun hok H4 s4 => ?_⟩
        · have hgne : ga ≠ sa := fun q => by have := I.giv; rw [q, I.sub] at this; cases this
          have giv4 : H4 ga = some (.lst (izs gs)) := kp4 _ _ (sP _ _ I.giv) hgne
          have st := st1 hok
          have hbd := I.len hlen st
          have hlp : (Sa20.pieces (Sa20Neutral.bytesOf b) 0 (natsOf e)).length ≤ 2048 := by rw [pieces_length]; unfold natsOf; rw [List.length_map]; exact hok.2.1
          obtain ⟨m1, m2⟩ := setKind_len (g := x0) I.n1 I.n2 hlp
          repeat walk_at "r2"
          refine ⟨by show 1 ≤ sizeLine; decide, fun p3 hp3 => ?_⟩
          have s45 : Same H4 (upd H4 p3 (.lst [.int 0])) := Same.new hp3
          have giv5 := s45 _ _ giv4
          have ng3 : p3 ≠ ga := fun q => by rw [q, giv4] at hp3; cases hp3
          repeat walk_at "r2"
          refine ⟨ty_list giv5, ?_⟩
          repeat walk_at "r2"
          refine rd_append giv5 (by rw [ints_len]; omega) ?_
          repeat walk_at "r2"
          refine ⟨ty_list upd_same, ?_⟩
          repeat walk_at "r2"
          refine rd_extend upd_same ((upd_ne ng3).trans upd_same) (by rw [List.length_append, ints_len]; show gs.length + 1 + 1 ≤ sizeLine; omega) ?_
          repeat walk_at "r2"
          refine ⟨ns.length - (j + 4 + n + m), by omega, j + 4 + n + m, _, _, _, _, ow2, co2, _, _, cs', f', Hs2, by show ([some (V.ref a), some (V.ref sa), some (V.ref ga), some (V.int ((j : Int) + 3 + ((izs b).length : Nat) + (1 + ((izs e).length : Nat)))), _, _, _, _] : St) = _; rw [ej], I.next (ans := [0]) hgn st (fun x o h => s45 _ _ (kp4 _ _ (sP _ _ (I.same _ _ h)) (ne_of_none h hsa))) (s45 _ _ hsa4) giv5 (hss4.trans s45) ?_ ?_ hb1 hb2 m1 m2, hcs', rfl⟩
          · exact hno _ _ (sP _ _ I.sub) I.hn
          · exact hno _ _ (sP _ _ I.giv) I.hg
        · have st := st2 hok
          have hbd := I.len hlen st
          have giv4 : H4 ga = some (.lst (izs gs)) := s4 _ _ (sP _ _ I.giv)
          repeat walk_at "r2"
          refine ⟨by show 1 ≤ sizeLine; decide, fun p3 hp3 => ?_⟩
          have s45 : Same H4 (upd H4 p3 (.lst [.int (-1)])) := Same.new hp3
          have giv5 := s45 _ _ giv4
          have ng3 : p3 ≠ ga := fun q => by rw [q, giv4] at hp3; cases hp3
          have sQ := (sP.trans s4).trans s45
          repeat walk_at "r2"
          refine ⟨ty_list giv5, ?_⟩
          repeat walk_at "r2"
          refine rd_append giv5 (by rw [ints_len]; omega) ?_
          repeat walk_at "r2"
          refine ⟨ty_list upd_same, ?_⟩
          repeat walk_at "r2"
          refine rd_extend upd_same ((upd_ne ng3).trans upd_same) (by rw [List.length_append, ints_len]; show gs.length + 1 + 1 ≤ sizeLine; omega) ?_
          repeat walk_at "r2"
          exact ⟨ns.length - (j + 4 + n + m), by omega, j + 4 + n + m, _, _, _, _, ow', co', _, _, cs', f', Hs, by show ([some (V.ref a), some (V.ref sa), some (V.ref ga), some (V.int ((j : Int) + 3 + ((izs b).length : Nat) + (1 + ((izs e).length : Nat)))), _, _, _, _] : St) = _; rw [ej], I.next (ans := [-1]) hgn st (I.same.trans sQ) (sQ _ _ I.sub) giv5 (I.hs.trans sQ) I.hn I.hg I.s1 I.s2 I.n1 I.n2, hcs', rfl⟩
      · generalize hb : (ns.drop (j + 3)).take n = b at *
        have hw : PySa20.whole [[1, x0], b] = [[1, (b.length : Int), x0], b] := rfl
        rw [hw] at hac
        have hbb := asked_run hac
        clear hask hans k hac
        repeat walk_at "r2"
        refine ⟨a, ns, j + 2, n, by rfl, hA1, e3, by omega, fun p1 hp1 => ?_⟩
        rw [hb]
        have hA2 : SqL K (upd H' p1 (.lst (izs b))) a (izs ns) := (Same.new hp1).seq hA1
        repeat walk_at "r2"
        refine rd_ixL hA2 (at_z rfl e1) ?_
        repeat walk_at "r2"
        refine iteD (fun h => absurd h (by decide)) (fun _ => ?_)
        repeat walk_at "r2"
        refine rd_ixL hA2 (at_z (j := j + 1) (by omega) e2) ?_
        repeat walk_at "r2"
        have sP : Same H' (upd H' p1 (.lst (izs b))) := Same.new hp1
        refine ⟨p1, x0, sa, ds, ow', co', t, Sa20Neutral.bytesOf b, rfl, by rw [bytesV_of hbb]; exact upd_same, by rw [bytesOf_len]; omega, sP _ _ I.sub, I.s1.keep (I.hs.trans sP), I.s2.keep (I.hs.trans sP), I.n1, I.n2, fun H4 p3 hp3 s4 hp4 => ?_⟩
        have ej : (j : Int) + 3 + ((izs b).length : Nat) = ((j + 3 + n : Nat) : Int) := by rw [ints_len]; omega
        obtain ⟨ans, st, hp5⟩ : ∃ ans, Sa20Neutral.step t (PySa20.whole [[1, x0], b]) = (t, ans) ∧ H4 p3 = some (.lst (izs ans)) :=
          ⟨_, step_run (s := t) (b := b) (most := x0) (by omega) (fun k hk => run_neg _ _ hk) (run_some _ _ (first_ok _ _) (first_mu _)), hp4⟩
        clear hp4
        have hbd := I.len hlen st
        have sQ := sP.trans s4
        have giv5 := sQ _ _ I.giv
        have ng3 : p3 ≠ ga := fun q => by rw [q, sP _ _ I.giv] at hp3; cases hp3
        repeat walk_at "r2"
        refine ⟨ty_list giv5, ?_⟩
        repeat walk_at "r2"
        refine rd_append giv5 (by rw [ints_len]; omega) ?_
        repeat walk_at "r2"
        refine ⟨ty_list upd_same, ?_⟩
        repeat walk_at "r2"
        refine rd_extend upd_same ((upd_ne ng3).trans hp5) (by rw [List.length_append, ints_len, ints_len]; show gs.length + 1 + ans.length ≤ sizeLine; omega) ?_
        repeat walk_at "r2"
        rw [show ((izs ans).length : Int) = (ans.length : Int) by rw [ints_len]]
        exact ⟨ns.length - (j + 3 + n), by omega, j + 3 + n, _, _, _, _, ow', co', _, _, cs', f', Hs, by show ([some (V.ref a), some (V.ref sa), some (V.ref ga), some (V.int ((j : Int) + 3 + ((izs b).length : Nat))), _, _, _, _] : St) = _; rw [ej], I.next hgn st (I.same.trans sQ) (sQ _ _ I.sub) giv5 (I.hs.trans sQ) I.hn I.hg I.s1 I.s2 I.n1 I.n2, hcs', rfl⟩
    · rw [ints_len] at h1
      have e0 := calls_nil (by omega) hcs
      subst e0
      have eq := I.eq
      have eq : gs ++ [] = PySa20.answers ns := eq
      rw [List.append_nil] at eq
      repeat walk_at "r2"
      refine k _ ga ?_
      rw [← eq]; exact I.giv
end
end Mn
namespace Mn
open PySem PySem.Spec PyProof.Rows L2
section
variable {P : Program} {w : World} {K : PySem.W.Frag} {mg : Str → Option Value} {h : Heap}
theorem raw_mk {x : Str} {st : Stmt} {f : Addr} {oc kV doc pm cdv ct : Value} {od an : Option Addr} {sl : Array (Option Value)} (X : K.In h) (G : h.Ns mainGlobals mg) (a : PySem.W.nsIn K mainGlobals x = some (some (.ref f)))
    (l : K.lookup f = some ⟨oc, od, .func (PySem.W.fnOf x x (defArgs st) (defBody st) (defScope st) .none kV doc pm an cdv ct), sl⟩) (c : PySem.W.codeIn K cdv x = true) (k : PySem.W.keepIn K (.ref f) = true) : Raw K mg x st :=
  ⟨f, _, PySem.W.mg_of X G a, fun_mk (st := st) l c k⟩
theorem cst_mk {x : Str} {i : Int} {t : Tok} (X : K.In h) (G : h.Ns mainGlobals mg) (a : PySem.W.nsIn K mainGlobals x = some (some (.int i t))) : Cst mg x i := ⟨t, PySem.W.mg_of X G a⟩
def pI : List DictEntry → List (Key × Value) → Prop
  | [], [] => True
  | e :: es, kv :: vs => (∃ i t, kv.1 = .inl i ∧ e.key = .int i t ∧ e.hash = hashInt i) ∧ e.val = kv.2 ∧ pI es vs
  | _, _ => False
theorem pI_pairs : ∀ {es : List DictEntry} {vs : List (Key × Value)}, pI es vs → Pairs (mixKind P w) es vs ∧ ∀ e ∈ es, ∃ k, (mixKind P w).is k e.key = true ∧ e.hash = (mixKind P w).hash k
  | [], [], _ => ⟨.nil, fun _ h => nomatch h⟩
  | e :: es, kv :: vs, q => by
    obtain ⟨⟨i, t, e1, e2, e3⟩, e4, q⟩ := q
    obtain ⟨p1, p2⟩ := pI_pairs q
    have hi : (mixKind P w).is kv.1 e.key = true := by rw [e1, e2]; exact mixKind_int P w i t
    refine ⟨.cons hi e4 p1, fun x hx => ?_⟩
    rcases List.mem_cons.mp hx with rfl | hx
    · exact ⟨kv.1, hi, by rw [e1]; exact e3⟩
    · exact p2 x hx
  | [], _ :: _, q => q.elim
  | _ :: _, [], q => q.elim
theorem md_mk {x : Str} {d : Addr} {es : Array DictEntry} {ep : Nat} {kvs : List (Key × V)} {vs : List (Key × Value)} (X : K.In h) (G : h.Ns mainGlobals mg) (a : PySem.W.nsIn K mainGlobals x = some (some (.ref d)))
    (l : K.lookup d = some ⟨.type "dict", none, .dict es ep, #[]⟩) (hs : (d == sysModules) = false) (hp : pI es.toList vs) (hn : (vs.map (·.1)).Nodup) (kv : KV kvs vs) : MDict P w K mg x kvs := by
  refine ⟨d, PySem.W.mg_of X G a, hs, vs, kv, fun h' X' => ?_⟩
  obtain ⟨p1, p2⟩ := pI_pairs (P := P) (w := w) hp
  exact ⟨_, es, ep, X' _ _ l, ⟨rfl, rfl, rfl⟩, rfl, fun e he => p2 e (Array.mem_toList_iff.mpr he), p1, hn⟩
theorem gv_mk {x : Str} {f : Addr} (X : K.In h) (G : h.Ns mainGlobals mg) (a : PySem.W.nsIn K mainGlobals x = some (some (.ref f))) : RelV (gv mg x) (.ref f) := by
  rw [gv_of (PySem.W.mg_of X G a)]; rfl
theorem kv_cons {k : Key} {v : V} {u : Value} {kvs : List (Key × V)} {vs : List (Key × Value)} (r : RelV v u) (t : KV kvs vs) : KV ((k, v) :: kvs) ((k, u) :: vs) := .cons ⟨rfl, r⟩ t
theorem kv_nil : KV ([] : List (Key × V)) [] := .nil
theorem tup_mk {t : Addr} {x : Str} {f : Addr} {i : Int} {tk : Tok} {od : Option Addr} {n : Nat} {sl : Array (Option Value)} (X : K.In h) (G : h.Ns mainGlobals mg) (l : K.lookup t = some ⟨.type "tuple", od, .seq #[.int i tk, .ref f] n, sl⟩)
    (a : PySem.W.nsIn K mainGlobals x = some (some (.ref f))) : tupAt K t [.int i, gv mg x] := fun H =>
  .inr ⟨_, _, n, l, rfl, rfl, by show 2 ≤ sizeLine; decide, .cons ⟨tk, rfl⟩ (.cons (gv_mk X G a) .nil)⟩
theorem ans_ok {CR CS fa : Addr} (hmg : mg "answers" = some (.ref fa)) (T : Txt P w K mg CR CS) :
    ∃ fd : FuncData, (∀ (s : Shared) (us : List Value), us.length = (["calls"] : List Str).length → BindsTo s fd ⟨us, []⟩ ((["calls"] : List Str).zip us)) ∧ ∀ base : Heap, K.In base → base.Ns mainGlobals mg → FnOk P w K mg base CX0 9 fa fd ["calls"] (spAns 0 K) := by
  obtain ⟨f, fd, e, F⟩ := T.f_answers
  rw [hmg] at e
  cases e
  refine ⟨fd, fun s us hu => ?_, fun base hb hn => ok_answers (base := base) T F⟩
  obtain ⟨oc, od, kV, doc, pm, an, cdv, ct, osl, rfl, lk, hcd⟩ := F.ex
  match us, hu with
  | [_], _ => exact .of_eq rfl
end
end Mn
open PySem PySem.W PyProof.Rows
set_option maxRecDepth 100000 in
set_option maxHeartbeats 0 in
theorem PySem.Challenge.cw_outlineruns_s01_answers_holds : PySem.Challenge.rw_outlineruns_s01_answers.Holds := by
  refine hd_test ?_
  k_fillS
  refine L2.walk_specK (r := PySem.Challenge.rw_outlineruns_s01_answers) (k := 9) (CX := L2.CX0) (ps := ["calls"]) (sp := Mn.spAns 0) (by decide +kernel) rfl rfl ⟨rfl, by decide, by decide⟩ (fun w h Y => PySem.W.kIn_of Y) ?F ?S (fun _ _ _ _ z => z)
  case F =>
    intro w mg fa h Y KX G hmg
    refine' Mn.ans_ok hmg ?tx
    case tx =>
      refine' { mgR := ?q0, mgS := ?q1, f_within_bits := ?q2, f_whole_part := ?q3, f_begins_number := ?q4, f_bytes_behind := ?q5, f_number_of := ?q6, f_signed := ?q7, f_push := ?q8, f_take_all := ?q9, f_take_with_width := ?q10, f_put := ?q11, f_draw_piece := ?q12, f_draw := ?q13, f_is_none := ?q14, f_is_one := ?q15, f_is_two := ?q16, f_begin_path := ?q17, f_move := ?q18, f_move_along_x := ?q19, f_move_along_y := ?q20, f_end := ?q21, f_some_pairs := ?q22, f_pairs_or_none := ?q23, f_add_hints := ?q24, f_stems := ?q25, f_mask := ?q26, f_drop := ?q27, f_double := ?q28, f_swap := ?q29, f_is_cell := ?q30, f_put_in_cell := ?q31, f_take_from_cell := ?q32, f_once_more := ?q33, f_turn := ?q34, f_steps_of := ?q35, f_lines_of := ?q36, f_curves_of := ?q37, f_fours_of := ?q38, f_is_fours_or_one_more := ?q39, f_lines := ?q40, f_lines_in_turn := ?q41, f_lines_from_x := ?q42, f_lines_from_y := ?q43, f_curves := ?q44, f_curves_then_line := ?q45, f_lines_then_curve := ?q46, f_level_curves := ?q47, f_standing_curves := ?q48, f_flat_curve := ?q49, f_upright_curve := ?q50, f_curves_in_turn := ?q51, f_curves_from_flat := ?q52, f_curves_from_upright := ?q53, f_two_curves_of_seven := ?q54, f_two_curves_of_thirteen := ?q55, f_two_curves_of_nine := ?q56, f_two_curves_of_eleven := ?q57, f_truth := ?q58, f_both := ?q59, f_either := ?q60, f_is_zero := ?q61, f_without_sign := ?q62, f_other_sign := ?q63, f_plus := ?q64, f_minus := ?q65, f_times := ?q66, f_divided := ?q67, f_root := ?q68, f_equal := ?q69, f_chosen := ?q70, f_reckon := ?q71, f_replace_kind := ?q72, f_cut_at := ?q73, f_added_for := ?q74, f_call_own := ?q75, f_call_common := ?q76, f_call_one_of := ?q77, f_leave := ?q78, f_run_program := ?q79, f_step := ?q80, f_push_number := ?q81, f_operate := ?q82, f_deed_of := ?q83, f_answers := ?q84, f_row_at := ?q85, c_ONE := ?q86, c_LEAST := ?q87, c_GREATEST := ?q88, c_SHORT_NUMBER := ?q89, c_LEAST_NUMBER_BYTE := ?q90, c_FINE := ?q91, c_WRONG_CALL := ?q92, c_STACK_FULL := ?q93, c_WRONG_COUNT := ?q94, c_NO_OPERATOR := ?q95, c_NO_SUBROUTINE := ?q96, c_TOO_DEEP := ?q97, c_BYTES_END := ?q98, c_OUT_OF_RANGE := ?q99, c_TOO_MUCH_DRAWN := ?q100, c_TOO_MANY_OPERATORS := ?q101, c_TOO_MANY_HINTS := ?q102, c_NO_PATH := ?q103, c_MOST_ON_STACK := ?q104, c_HOW_MANY_CELLS := ?q105, c_NO_WIDTH := ?q106, c_BEGIN := ?q107, c_LINE := ?q108, c_CURVE := ?q109, c_CLOSE := ?q110, c_MOST_HINTS := ?q111, c_HIGHEST_ROOT_BIT := ?q112, c_OWN_KIND := ?q113, c_COMMON_KIND := ?q114, c_MOST_BYTES := ?q115, c_MOST_SUBROUTINES := ?q116, c_MOST_WITHIN := ?q117, c_MOST_DRAWN := ?q118, c_MOST_OPERATORS := ?q119, c_TWO_BYTES := ?q120, c_TWO_BYTES_FROM := ?q121, c_SUBRS := ?q122, b_len := ?q123, b_abs := ?q124, b_max := ?q125, b_sum := ?q126, b_list := ?q127, b_range := ?q128, b_enumerate := ?q129, d_PATHS := ?q130, d_HINTING := ?q131, d_KEEPING := ?q132, d_PIECES := ?q133, d_RECKONED := ?q134, d_CALLING := ?q135, clR := ?q136, mkR := ?q137, clS := ?q138, mkS := ?q139, nR_code := ?q140, nR_at := ?q141, nR_callers := ?q142, nR_own := ?q143, nR_common := ?q144, nR_most := ?q145, nR_stack := ?q146, nR_cells := ?q147, nR_width := ?q148, nR_width_due := ?q149, nR_hints := ?q150, nR_operators := ?q151, nR_x := ?q152, nR_y := ?q153, nR_begun := ?q154, nR_drawn := ?q155, nR_ended := ?q156, nS_own := ?q157, nS_common := ?q158 }
      (case q0 => (refine' PySem.W.mg_of KX G ?a; (case a => k_is)))
      (case q1 => (refine' PySem.W.mg_of KX G ?a; (case a => k_is)))
      (case q2 => (refine' Mn.raw_mk KX G ?a ?l ?c ?k; (case a => k_is); (case l => k_is); (case c => k_is); (case k => k_is)))
      (case q3 => (refine' Mn.raw_mk KX G ?a ?l ?c ?k; (case a => k_is); (case l => k_is); (case c => k_is); (case k => k_is)))
      (case q4 => (refine' Mn.raw_mk KX G ?a ?l ?c ?k; (case a => k_is); (case l => k_is); (case c => k_is); (case k => k_is)))
      (case q5 => (refine' Mn.raw_mk KX G ?a ?l ?c ?k; (case a => k_is); (case l => k_is); (case c => k_is); (case k => k_is)))
      (case q6 => (refine' Mn.raw_mk KX G ?a ?l ?c ?k; (case a => k_is); (case l => k_is); (case c => k_is); (case k => k_is)))
      (case q7 => (refine' Mn.raw_mk KX G ?a ?l ?c ?k; (case a => k_is); (case l => k_is); (case c => k_is); (case k => k_is)))
      (case q8 => (refine' Mn.raw_mk KX G ?a ?l ?c ?k; (case a => k_is); (case l => k_is); (case c => k_is); (case k => k_is)))
      (case q9 => (refine' Mn.raw_mk KX G ?a ?l ?c ?k; (case a => k_is); (case l => k_is); (case c => k_is); (case k => k_is)))
      (case q10 => (refine' Mn.raw_mk KX G ?a ?l ?c ?k; (case a => k_is); (case l => k_is); (case c => k_is); (case k => k_is)))
      (case q11 => (refine' Mn.raw_mk KX G ?a ?l ?c ?k; (case a => k_is); (case l => k_is); (case c => k_is); (case k => k_is)))
      (case q12 => (refine' Mn.raw_mk KX G ?a ?l ?c ?k; (case a => k_is); (case l => k_is); (case c => k_is); (case k => k_is)))
      (case q13 => (refine' Mn.raw_mk KX G ?a ?l ?c ?k; (case a => k_is); (case l => k_is); (case c => k_is); (case k => k_is)))
      (case q14 => (refine' Mn.raw_mk KX G ?a ?l ?c ?k; (case a => k_is); (case l => k_is); (case c => k_is); (case k => k_is)))
      (case q15 => (refine' Mn.raw_mk KX G ?a ?l ?c ?k; (case a => k_is); (case l => k_is); (case c => k_is); (case k => k_is)))
      (case q16 => (refine' Mn.raw_mk KX G ?a ?l ?c ?k; (case a => k_is); (case l => k_is); (case c => k_is); (case k => k_is)))
      (case q17 => (refine' Mn.raw_mk KX G ?a ?l ?c ?k; (case a => k_is); (case l => k_is); (case c => k_is); (case k => k_is)))
      (case q18 => (refine' Mn.raw_mk KX G ?a ?l ?c ?k; (case a => k_is); (case l => k_is); (case c => k_is); (case k => k_is)))
      (case q19 => (refine' Mn.raw_mk KX G ?a ?l ?c ?k; (case a => k_is); (case l => k_is); (case c => k_is); (case k => k_is)))
      (case q20 => (refine' Mn.raw_mk KX G ?a ?l ?c ?k; (case a => k_is); (case l => k_is); (case c => k_is); (case k => k_is)))
      (case q21 => (refine' Mn.raw_mk KX G ?a ?l ?c ?k; (case a => k_is); (case l => k_is); (case c => k_is); (case k => k_is)))
      (case q22 => (refine' Mn.raw_mk KX G ?a ?l ?c ?k; (case a => k_is); (case l => k_is); (case c => k_is); (case k => k_is)))
      (case q23 => (refine' Mn.raw_mk KX G ?a ?l ?c ?k; (case a => k_is); (case l => k_is); (case c => k_is); (case k => k_is)))
      (case q24 => (refine' Mn.raw_mk KX G ?a ?l ?c ?k; (case a => k_is); (case l => k_is); (case c => k_is); (case k => k_is)))
      (case q25 => (refine' Mn.raw_mk KX G ?a ?l ?c ?k; (case a => k_is); (case l => k_is); (case c => k_is); (case k => k_is)))
      (case q26 => (refine' Mn.raw_mk KX G ?a ?l ?c ?k; (case a => k_is); (case l => k_is); (case c => k_is); (case k => k_is)))
      (case q27 => (refine' Mn.raw_mk KX G ?a ?l ?c ?k; (case a => k_is); (case l => k_is); (case c => k_is); (case k => k_is)))
      (case q28 => (refine' Mn.raw_mk KX G ?a ?l ?c ?k; (case a => k_is); (case l => k_is); (case c => k_is); (case k => k_is)))
      (case q29 => (refine' Mn.raw_mk KX G ?a ?l ?c ?k; (case a => k_is); (case l => k_is); (case c => k_is); (case k => k_is)))
      (case q30 => (refine' Mn.raw_mk KX G ?a ?l ?c ?k; (case a => k_is); (case l => k_is); (case c => k_is); (case k => k_is)))
      (case q31 => (refine' Mn.raw_mk KX G ?a ?l ?c ?k; (case a => k_is); (case l => k_is); (case c => k_is); (case k => k_is)))
      (case q32 => (refine' Mn.raw_mk KX G ?a ?l ?c ?k; (case a => k_is); (case l => k_is); (case c => k_is); (case k => k_is)))
      (case q33 => (refine' Mn.raw_mk KX G ?a ?l ?c ?k; (case a => k_is); (case l => k_is); (case c => k_is); (case k => k_is)))
      (case q34 => (refine' Mn.raw_mk KX G ?a ?l ?c ?k; (case a => k_is); (case l => k_is); (case c => k_is); (case k => k_is)))
      (case q35 => (refine' Mn.raw_mk KX G ?a ?l ?c ?k; (case a => k_is); (case l => k_is); (case c => k_is); (case k => k_is)))
      (case q36 => (refine' Mn.raw_mk KX G ?a ?l ?c ?k; (case a => k_is); (case l => k_is); (case c => k_is); (case k => k_is)))
      (case q37 => (refine' Mn.raw_mk KX G ?a ?l ?c ?k; (case a => k_is); (case l => k_is); (case c => k_is); (case k => k_is)))
      (case q38 => (refine' Mn.raw_mk KX G ?a ?l ?c ?k; (case a => k_is); (case l => k_is); (case c => k_is); (case k => k_is)))
      (case q39 => (refine' Mn.raw_mk KX G ?a ?l ?c ?k; (case a => k_is); (case l => k_is); (case c => k_is); (case k => k_is)))
      (case q40 => (refine' Mn.raw_mk KX G ?a ?l ?c ?k; (case a => k_is); (case l => k_is); (case c => k_is); (case k => k_is)))
      (case q41 => (refine' Mn.raw_mk KX G ?a ?l ?c ?k; (case a => k_is); (case l => k_is); (case c => k_is); (case k => k_is)))
      (case q42 => (refine' Mn.raw_mk KX G ?a ?l ?c ?k; (case a => k_is); (case l => k_is); (case c => k_is); (case k => k_is)))
      (case q43 => (refine' Mn.raw_mk KX G ?a ?l ?c ?k; (case a => k_is); (case l => k_is); (case c => k_is); (case k => k_is)))
      (case q44 => (refine' Mn.raw_mk KX G ?a ?l ?c ?k; (case a => k_is); (case l => k_is); (case c => k_is); (case k => k_is)))
      (case q45 => (refine' Mn.raw_mk KX G ?a ?l ?c ?k; (case a => k_is); (case l => k_is); (case c => k_is); (case k => k_is)))
      (case q46 => (refine' Mn.raw_mk KX G ?a ?l ?c ?k; (case a => k_is); (case l => k_is); (case c => k_is); (case k => k_is)))
      (case q47 => (refine' Mn.raw_mk KX G ?a ?l ?c ?k; (case a => k_is); (case l => k_is); (case c => k_is); (case k => k_is)))
      (case q48 => (refine' Mn.raw_mk KX G ?a ?l ?c ?k; (case a => k_is); (case l => k_is); (case c => k_is); (case k => k_is)))
      (case q49 => (refine' Mn.raw_mk KX G ?a ?l ?c ?k; (case a => k_is); (case l => k_is); (case c => k_is); (case k => k_is)))
      (case q50 => (refine' Mn.raw_mk KX G ?a ?l ?c ?k; (case a => k_is); (case l => k_is); (case c => k_is); (case k => k_is)))
      (case q51 => (refine' Mn.raw_mk KX G ?a ?l ?c ?k; (case a => k_is); (case l => k_is); (case c => k_is); (case k => k_is)))
      (case q52 => (refine' Mn.raw_mk KX G ?a ?l ?c ?k; (case a => k_is); (case l => k_is); (case c => k_is); (case k => k_is)))
      (case q53 => (refine' Mn.raw_mk KX G ?a ?l ?c ?k; (case a => k_is); (case l => k_is); (case c => k_is); (case k => k_is)))
      (case q54 => (refine' Mn.raw_mk KX G ?a ?l ?c ?k; (case a => k_is); (case l => k_is); (case c => k_is); (case k => k_is)))
      (case q55 => (refine' Mn.raw_mk KX G ?a ?l ?c ?k; (case a => k_is); (case l => k_is); (case c => k_is); (case k => k_is)))
      (case q56 => (refine' Mn.raw_mk KX G ?a ?l ?c ?k; (case a => k_is); (case l => k_is); (case c => k_is); (case k => k_is)))
      (case q57 => (refine' Mn.raw_mk KX G ?a ?l ?c ?k; (case a => k_is); (case l => k_is); (case c => k_is); (case k => k_is)))
      (case q58 => (refine' Mn.raw_mk KX G ?a ?l ?c ?k; (case a => k_is); (case l => k_is); (case c => k_is); (case k => k_is)))
      (case q59 => (refine' Mn.raw_mk KX G ?a ?l ?c ?k; (case a => k_is); (case l => k_is); (case c => k_is); (case k => k_is)))
      (case q60 => (refine' Mn.raw_mk KX G ?a ?l ?c ?k; (case a => k_is); (case l => k_is); (case c => k_is); (case k => k_is)))
      (case q61 => (refine' Mn.raw_mk KX G ?a ?l ?c ?k; (case a => k_is); (case l => k_is); (case c => k_is); (case k => k_is)))
      (case q62 => (refine' Mn.raw_mk KX G ?a ?l ?c ?k; (case a => k_is); (case l => k_is); (case c => k_is); (case k => k_is)))
      (case q63 => (refine' Mn.raw_mk KX G ?a ?l ?c ?k; (case a => k_is); (case l => k_is); (case c => k_is); (case k => k_is)))
      (case q64 => (refine' Mn.raw_mk KX G ?a ?l ?c ?k; (case a => k_is); (case l => k_is); (case c => k_is); (case k => k_is)))
      (case q65 => (refine' Mn.raw_mk KX G ?a ?l ?c ?k; (case a => k_is); (case l => k_is); (case c => k_is); (case k => k_is)))
      (case q66 => (refine' Mn.raw_mk KX G ?a ?l ?c ?k; (case a => k_is); (case l => k_is); (case c => k_is); (case k => k_is)))
      (case q67 => (refine' Mn.raw_mk KX G ?a ?l ?c ?k; (case a => k_is); (case l => k_is); (case c => k_is); (case k => k_is)))
      (case q68 => (refine' Mn.raw_mk KX G ?a ?l ?c ?k; (case a => k_is); (case l => k_is); (case c => k_is); (case k => k_is)))
      (case q69 => (refine' Mn.raw_mk KX G ?a ?l ?c ?k; (case a => k_is); (case l => k_is); (case c => k_is); (case k => k_is)))
      (case q70 => (refine' Mn.raw_mk KX G ?a ?l ?c ?k; (case a => k_is); (case l => k_is); (case c => k_is); (case k => k_is)))
      (case q71 => (refine' Mn.raw_mk KX G ?a ?l ?c ?k; (case a => k_is); (case l => k_is); (case c => k_is); (case k => k_is)))
      (case q72 => (refine' Mn.raw_mk KX G ?a ?l ?c ?k; (case a => k_is); (case l => k_is); (case c => k_is); (case k => k_is)))
      (case q73 => (refine' Mn.raw_mk KX G ?a ?l ?c ?k; (case a => k_is); (case l => k_is); (case c => k_is); (case k => k_is)))
      (case q74 => (refine' Mn.raw_mk KX G ?a ?l ?c ?k; (case a => k_is); (case l => k_is); (case c => k_is); (case k => k_is)))
      (case q75 => (refine' Mn.raw_mk KX G ?a ?l ?c ?k; (case a => k_is); (case l => k_is); (case c => k_is); (case k => k_is)))
      (case q76 => (refine' Mn.raw_mk KX G ?a ?l ?c ?k; (case a => k_is); (case l => k_is); (case c => k_is); (case k => k_is)))
      (case q77 => (refine' Mn.raw_mk KX G ?a ?l ?c ?k; (case a => k_is); (case l => k_is); (case c => k_is); (case k => k_is)))
      (case q78 => (refine' Mn.raw_mk KX G ?a ?l ?c ?k; (case a => k_is); (case l => k_is); (case c => k_is); (case k => k_is)))
      (case q79 => (refine' Mn.raw_mk KX G ?a ?l ?c ?k; (case a => k_is); (case l => k_is); (case c => k_is); (case k => k_is)))
      (case q80 => (refine' Mn.raw_mk KX G ?a ?l ?c ?k; (case a => k_is); (case l => k_is); (case c => k_is); (case k => k_is)))
      (case q81 => (refine' Mn.raw_mk KX G ?a ?l ?c ?k; (case a => k_is); (case l => k_is); (case c => k_is); (case k => k_is)))
      (case q82 => (refine' Mn.raw_mk KX G ?a ?l ?c ?k; (case a => k_is); (case l => k_is); (case c => k_is); (case k => k_is)))
      (case q83 => (refine' Mn.raw_mk KX G ?a ?l ?c ?k; (case a => k_is); (case l => k_is); (case c => k_is); (case k => k_is)))
      (case q84 => (refine' Mn.raw_mk KX G ?a ?l ?c ?k; (case a => k_is); (case l => k_is); (case c => k_is); (case k => k_is)))
      (case q85 => (refine' Mn.raw_mk KX G ?a ?l ?c ?k; (case a => k_is); (case l => k_is); (case c => k_is); (case k => k_is)))
      (case q86 => (refine' Mn.cst_mk KX G ?a; (case a => k_is)))
      (case q87 => (refine' Mn.cst_mk KX G ?a; (case a => k_is)))
      (case q88 => (refine' Mn.cst_mk KX G ?a; (case a => k_is)))
      (case q89 => (refine' Mn.cst_mk KX G ?a; (case a => k_is)))
      (case q90 => (refine' Mn.cst_mk KX G ?a; (case a => k_is)))
      (case q91 => (refine' Mn.cst_mk KX G ?a; (case a => k_is)))
      (case q92 => (refine' Mn.cst_mk KX G ?a; (case a => k_is)))
      (case q93 => (refine' Mn.cst_mk KX G ?a; (case a => k_is)))
      (case q94 => (refine' Mn.cst_mk KX G ?a; (case a => k_is)))
      (case q95 => (refine' Mn.cst_mk KX G ?a; (case a => k_is)))
      (case q96 => (refine' Mn.cst_mk KX G ?a; (case a => k_is)))
      (case q97 => (refine' Mn.cst_mk KX G ?a; (case a => k_is)))
      (case q98 => (refine' Mn.cst_mk KX G ?a; (case a => k_is)))
      (case q99 => (refine' Mn.cst_mk KX G ?a; (case a => k_is)))
      (case q100 => (refine' Mn.cst_mk KX G ?a; (case a => k_is)))
      (case q101 => (refine' Mn.cst_mk KX G ?a; (case a => k_is)))
      (case q102 => (refine' Mn.cst_mk KX G ?a; (case a => k_is)))
      (case q103 => (refine' Mn.cst_mk KX G ?a; (case a => k_is)))
      (case q104 => (refine' Mn.cst_mk KX G ?a; (case a => k_is)))
      (case q105 => (refine' Mn.cst_mk KX G ?a; (case a => k_is)))
      (case q106 => (refine' Mn.cst_mk KX G ?a; (case a => k_is)))
      (case q107 => (refine' Mn.cst_mk KX G ?a; (case a => k_is)))
      (case q108 => (refine' Mn.cst_mk KX G ?a; (case a => k_is)))
      (case q109 => (refine' Mn.cst_mk KX G ?a; (case a => k_is)))
      (case q110 => (refine' Mn.cst_mk KX G ?a; (case a => k_is)))
      (case q111 => (refine' Mn.cst_mk KX G ?a; (case a => k_is)))
      (case q112 => (refine' Mn.cst_mk KX G ?a; (case a => k_is)))
      (case q113 => (refine' Mn.cst_mk KX G ?a; (case a => k_is)))
      (case q114 => (refine' Mn.cst_mk KX G ?a; (case a => k_is)))
      (case q115 => (refine' Mn.cst_mk KX G ?a; (case a => k_is)))
      (case q116 => (refine' Mn.cst_mk KX G ?a; (case a => k_is)))
      (case q117 => (refine' Mn.cst_mk KX G ?a; (case a => k_is)))
      (case q118 => (refine' Mn.cst_mk KX G ?a; (case a => k_is)))
      (case q119 => (refine' Mn.cst_mk KX G ?a; (case a => k_is)))
      (case q120 => (refine' Mn.cst_mk KX G ?a; (case a => k_is)))
      (case q121 => (refine' Mn.cst_mk KX G ?a; (case a => k_is)))
      (case q122 => (refine' Mn.cst_mk KX G ?a; (case a => k_is)))
      (case q123 => (refine' PySem.W.mg_none_of KX G ?a; (case a => k_is)))
      (case q124 => (refine' PySem.W.mg_none_of KX G ?a; (case a => k_is)))
      (case q125 => (refine' PySem.W.mg_none_of KX G ?a; (case a => k_is)))
      (case q126 => (refine' PySem.W.mg_none_of KX G ?a; (case a => k_is)))
      (case q127 => (refine' PySem.W.mg_none_of KX G ?a; (case a => k_is)))
      (case q128 => (refine' PySem.W.mg_none_of KX G ?a; (case a => k_is)))
      (case q129 => (refine' PySem.W.mg_none_of KX G ?a; (case a => k_is)))
      (case q130 => (refine' Mn.md_mk KX G ?a ?l ?hs ?hp ?hn (Mn.kv_cons (Mn.gv_mk KX G ?g0) (Mn.kv_cons (Mn.gv_mk KX G ?g1) (Mn.kv_cons (Mn.gv_mk KX G ?g2) (Mn.kv_cons (Mn.gv_mk KX G ?g3) Mn.kv_nil)))); (case a => k_is); (case l => k_is); (case g0 => k_is); (case g1 => k_is); (case g2 => k_is); (case g3 => k_is); (case hs => decide +kernel); (case hp => exact ⟨⟨4, _, rfl, rfl, rfl⟩, rfl, ⟨⟨14, _, rfl, rfl, rfl⟩, rfl, ⟨⟨21, _, rfl, rfl, rfl⟩, rfl, ⟨⟨22, _, rfl, rfl, rfl⟩, rfl, trivial⟩⟩⟩⟩); (case hn => decide +kernel)))
      (case q131 => (refine' Mn.md_mk KX G ?a ?l ?hs ?hp ?hn (Mn.kv_cons (Mn.gv_mk KX G ?g0) (Mn.kv_cons (Mn.gv_mk KX G ?g1) (Mn.kv_cons (Mn.gv_mk KX G ?g2) (Mn.kv_cons (Mn.gv_mk KX G ?g3) (Mn.kv_cons (Mn.gv_mk KX G ?g4) (Mn.kv_cons (Mn.gv_mk KX G ?g5) Mn.kv_nil)))))); (case a => k_is); (case l => k_is); (case g0 => k_is); (case g1 => k_is); (case g2 => k_is); (case g3 => k_is); (case g4 => k_is); (case g5 => k_is); (case hs => decide +kernel); (case hp => exact ⟨⟨1, _, rfl, rfl, rfl⟩, rfl, ⟨⟨3, _, rfl, rfl, rfl⟩, rfl, ⟨⟨18, _, rfl, rfl, rfl⟩, rfl, ⟨⟨23, _, rfl, rfl, rfl⟩, rfl, ⟨⟨19, _, rfl, rfl, rfl⟩, rfl, ⟨⟨20, _, rfl, rfl, rfl⟩, rfl, trivial⟩⟩⟩⟩⟩⟩); (case hn => decide +kernel)))
      (case q132 => (refine' Mn.md_mk KX G ?a ?l ?hs ?hp ?hn (Mn.kv_cons (Mn.gv_mk KX G ?g0) (Mn.kv_cons (Mn.gv_mk KX G ?g1) (Mn.kv_cons (Mn.gv_mk KX G ?g2) (Mn.kv_cons (Mn.gv_mk KX G ?g3) (Mn.kv_cons (Mn.gv_mk KX G ?g4) (Mn.kv_cons (Mn.gv_mk KX G ?g5) (Mn.kv_cons (Mn.gv_mk KX G ?g6) Mn.kv_nil))))))); (case a => k_is); (case l => k_is); (case g0 => k_is); (case g1 => k_is); (case g2 => k_is); (case g3 => k_is); (case g4 => k_is); (case g5 => k_is); (case g6 => k_is); (case hs => decide +kernel); (case hp => exact ⟨⟨1218, _, rfl, rfl, rfl⟩, rfl, ⟨⟨1220, _, rfl, rfl, rfl⟩, rfl, ⟨⟨1221, _, rfl, rfl, rfl⟩, rfl, ⟨⟨1227, _, rfl, rfl, rfl⟩, rfl, ⟨⟨1228, _, rfl, rfl, rfl⟩, rfl, ⟨⟨1229, _, rfl, rfl, rfl⟩, rfl, ⟨⟨1230, _, rfl, rfl, rfl⟩, rfl, trivial⟩⟩⟩⟩⟩⟩⟩); (case hn => decide +kernel)))
      (case q133 => (refine' Mn.md_mk KX G ?a ?l ?hs ?hp ?hn (Mn.kv_cons (Mn.gv_mk KX G ?g0) (Mn.kv_cons (Mn.gv_mk KX G ?g1) (Mn.kv_cons (Mn.gv_mk KX G ?g2) (Mn.kv_cons (Mn.gv_mk KX G ?g3) (Mn.kv_cons (Mn.gv_mk KX G ?g4) (Mn.kv_cons (Mn.gv_mk KX G ?g5) (Mn.kv_cons (Mn.gv_mk KX G ?g6) (Mn.kv_cons (Mn.gv_mk KX G ?g7) (Mn.kv_cons (Mn.gv_mk KX G ?g8) (Mn.kv_cons (Mn.gv_mk KX G ?g9) (Mn.kv_cons (Mn.gv_mk KX G ?g10) (Mn.kv_cons (Mn.gv_mk KX G ?g11) (Mn.kv_cons (Mn.gv_mk KX G ?g12) (Mn.kv_cons (Mn.gv_mk KX G ?g13) Mn.kv_nil)))))))))))))); (case a => k_is); (case l => k_is); (case g0 => k_is); (case g1 => k_is); (case g2 => k_is); (case g3 => k_is); (case g4 => k_is); (case g5 => k_is); (case g6 => k_is); (case g7 => k_is); (case g8 => k_is); (case g9 => k_is); (case g10 => k_is); (case g11 => k_is); (case g12 => k_is); (case g13 => k_is); (case hs => decide +kernel); (case hp => exact ⟨⟨5, _, rfl, rfl, rfl⟩, rfl, ⟨⟨6, _, rfl, rfl, rfl⟩, rfl, ⟨⟨7, _, rfl, rfl, rfl⟩, rfl, ⟨⟨8, _, rfl, rfl, rfl⟩, rfl, ⟨⟨24, _, rfl, rfl, rfl⟩, rfl, ⟨⟨25, _, rfl, rfl, rfl⟩, rfl, ⟨⟨26, _, rfl, rfl, rfl⟩, rfl, ⟨⟨27, _, rfl, rfl, rfl⟩, rfl, ⟨⟨30, _, rfl, rfl, rfl⟩, rfl, ⟨⟨31, _, rfl, rfl, rfl⟩, rfl, ⟨⟨1234, _, rfl, rfl, rfl⟩, rfl, ⟨⟨1235, _, rfl, rfl, rfl⟩, rfl, ⟨⟨1236, _, rfl, rfl, rfl⟩, rfl, ⟨⟨1237, _, rfl, rfl, rfl⟩, rfl, trivial⟩⟩⟩⟩⟩⟩⟩⟩⟩⟩⟩⟩⟩⟩); (case hn => decide +kernel)))
      (case q134 => (refine' ⟨_, _, _, _, _, _, _, _, _, _, _, _, Mn.md_mk (vs := [(.inl 1203, .ref _), (.inl 1204, .ref _), (.inl 1205, .ref _), (.inl 1209, .ref _), (.inl 1210, .ref _), (.inl 1211, .ref _), (.inl 1212, .ref _), (.inl 1214, .ref _), (.inl 1215, .ref _), (.inl 1222, .ref _), (.inl 1224, .ref _), (.inl 1226, .ref _)]) KX G ?a ?l ?hs ?hp ?hn (Mn.kv_cons (k := .inl 1203) (by rfl) (Mn.kv_cons (k := .inl 1204) (by rfl) (Mn.kv_cons (k := .inl 1205) (by rfl) (Mn.kv_cons (k := .inl 1209) (by rfl) (Mn.kv_cons (k := .inl 1210) (by rfl) (Mn.kv_cons (k := .inl 1211) (by rfl) (Mn.kv_cons (k := .inl 1212) (by rfl) (Mn.kv_cons (k := .inl 1214) (by rfl) (Mn.kv_cons (k := .inl 1215) (by rfl) (Mn.kv_cons (k := .inl 1222) (by rfl) (Mn.kv_cons (k := .inl 1224) (by rfl) (Mn.kv_cons (k := .inl 1226) (by rfl) Mn.kv_nil)))))))))))), Mn.tup_mk KX G ?l0 ?a0, Mn.tup_mk KX G ?l1 ?a1, Mn.tup_mk KX G ?l2 ?a2, Mn.tup_mk KX G ?l3 ?a3, Mn.tup_mk KX G ?l4 ?a4, Mn.tup_mk KX G ?l5 ?a5, Mn.tup_mk KX G ?l6 ?a6, Mn.tup_mk KX G ?l7 ?a7, Mn.tup_mk KX G ?l8 ?a8, Mn.tup_mk KX G ?l9 ?a9, Mn.tup_mk KX G ?l10 ?a10, Mn.tup_mk KX G ?l11 ?a11⟩; (case a => k_is); (case l => k_is); (case hp => exact ⟨⟨1203, _, rfl, rfl, rfl⟩, rfl, ⟨⟨1204, _, rfl, rfl, rfl⟩, rfl, ⟨⟨1205, _, rfl, rfl, rfl⟩, rfl, ⟨⟨1209, _, rfl, rfl, rfl⟩, rfl, ⟨⟨1210, _, rfl, rfl, rfl⟩, rfl, ⟨⟨1211, _, rfl, rfl, rfl⟩, rfl, ⟨⟨1212, _, rfl, rfl, rfl⟩, rfl, ⟨⟨1214, _, rfl, rfl, rfl⟩, rfl, ⟨⟨1215, _, rfl, rfl, rfl⟩, rfl, ⟨⟨1222, _, rfl, rfl, rfl⟩, rfl, ⟨⟨1224, _, rfl, rfl, rfl⟩, rfl, ⟨⟨1226, _, rfl, rfl, rfl⟩, rfl, trivial⟩⟩⟩⟩⟩⟩⟩⟩⟩⟩⟩⟩); (case l0 => k_is); (case a0 => k_is); (case l1 => k_is); (case a1 => k_is); (case l2 => k_is); (case a2 => k_is); (case l3 => k_is); (case a3 => k_is); (case l4 => k_is); (case a4 => k_is); (case l5 => k_is); (case a5 => k_is); (case l6 => k_is); (case a6 => k_is); (case l7 => k_is); (case a7 => k_is); (case l8 => k_is); (case a8 => k_is); (case l9 => k_is); (case a9 => k_is); (case l10 => k_is); (case a10 => k_is); (case l11 => k_is); (case a11 => k_is); (case hs => decide +kernel); (case hn => decide +kernel)))
      (case q135 => (refine' Mn.md_mk KX G ?a ?l ?hs ?hp ?hn (Mn.kv_cons (Mn.gv_mk KX G ?g0) (Mn.kv_cons (Mn.gv_mk KX G ?g1) (Mn.kv_cons (Mn.gv_mk KX G ?g2) Mn.kv_nil))); (case a => k_is); (case l => k_is); (case g0 => k_is); (case g1 => k_is); (case g2 => k_is); (case hs => decide +kernel); (case hp => exact ⟨⟨10, _, rfl, rfl, rfl⟩, rfl, ⟨⟨11, _, rfl, rfl, rfl⟩, rfl, ⟨⟨29, _, rfl, rfl, rfl⟩, rfl, trivial⟩⟩⟩); (case hn => decide +kernel)))
      (case q136 => (refine' ⟨?a, ?b, ?c, ?d⟩; (case a => k_is); (case b => k_is); (case c => k_is); (case d => k_is)))
      (case q137 => (refine' ⟨_, _, ⟨?a, ?b, ?c, ?d⟩, L2.fun_mk (st := Mn.s_Run___init__) ?l ?e ?k⟩; (case a => k_is); (case b => k_is); (case c => k_is); (case d => k_is); (case l => k_is); (case e => k_is); (case k => k_is)))
      (case q138 => (refine' ⟨?a, ?b, ?c, ?d⟩; (case a => k_is); (case b => k_is); (case c => k_is); (case d => k_is)))
      (case q139 => (refine' ⟨_, _, ⟨?a, ?b, ?c, ?d⟩, L2.fun_mk (st := Mn.s_Subroutines___init__) ?l ?e ?k⟩; (case a => k_is); (case b => k_is); (case c => k_is); (case d => k_is); (case l => k_is); (case e => k_is); (case k => k_is)))
      (case q140 => (unfold L2.NoAttr; k_is))
      (case q141 => (unfold L2.NoAttr; k_is))
      (case q142 => (unfold L2.NoAttr; k_is))
      (case q143 => (unfold L2.NoAttr; k_is))
      (case q144 => (unfold L2.NoAttr; k_is))
      (case q145 => (unfold L2.NoAttr; k_is))
      (case q146 => (unfold L2.NoAttr; k_is))
      (case q147 => (unfold L2.NoAttr; k_is))
      (case q148 => (unfold L2.NoAttr; k_is))
      (case q149 => (unfold L2.NoAttr; k_is))
      (case q150 => (unfold L2.NoAttr; k_is))
      (case q151 => (unfold L2.NoAttr; k_is))
      (case q152 => (unfold L2.NoAttr; k_is))
      (case q153 => (unfold L2.NoAttr; k_is))
      (case q154 => (unfold L2.NoAttr; k_is))
      (case q155 => (unfold L2.NoAttr; k_is))
      (case q156 => (unfold L2.NoAttr; k_is))
      (case q157 => (unfold L2.NoAttr; k_is))
      (case q158 => (unfold L2.NoAttr; k_is))
  case S =>
    intro K H xs a hO hwi hask hx
    cases hx with
    | cons h1 h2 =>
      cases h2
      cases h1 with
      | lst hs ha =>
        have e := L2.ints_dw a.1 _ ha
        subst e
        have q : ((Codec.inLen 0 30000 a.1 && a.1.all (Codec.inInt (-2147483648) 4294967295)) && true) = true := hwi
        rw [Bool.and_eq_true, Bool.and_eq_true] at q
        exact ⟨_, a.1, rfl, hs, (Codec.inNat_iff.mp q.1.1).2, hask, fun H' p hp => .lst (L2.SqL.of hp) (L2.dw_ints _)⟩

